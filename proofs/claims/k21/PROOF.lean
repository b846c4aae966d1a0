import PyProof.Rows.All
import Wide.All
import OpenK.AllK
import Wide.FinOn
import HandS.ForMost
import HandS.Wide
import HandS.IsInst
import HandS.TupMul
import HandS.TupAny
import PySem.Challenge.RW_truealmanac_k21_which_calendars_are_righ
set_option Elab.async false
set_option linter.all false
set_option maxRecDepth 100000
namespace Rd
open PySem PySem.Spec PyProof.Rows L2
/-! ### what is kept: all but the object at d -/
def But (d : Addr) (H H' : Hp) : Prop := ∀ b o, b ≠ d → H b = some o → H' b = some o
theorem But.refl {d : Addr} {H : Hp} : But d H H := fun _ _ _ h => h
theorem But.trans {d : Addr} {H H1 H2 : Hp} (a : But d H H1) (b : But d H1 H2) : But d H H2 := fun c o n h => b c o n (a c o n h)
theorem But.of {d : Addr} {H H' : Hp} (s : Same H H') : But d H H' := fun b o _ h => s b o h
theorem But.put {d : Addr} {H : Hp} {o : HO} : But d H (upd H d o) := fun b u n h => by rw [upd_ne n]; exact h
theorem But.new {d p : Addr} {H : Hp} {o : HO} (h : H p = none) : But d H (upd H p o) := fun b u _ e => by rw [upd_ne (ne_of_none e h)]; exact e
theorem But.seqL {d : Addr} {K : PySem.W.Frag} {H H' : Hp} {a : Addr} {xs : List V} (n : a ≠ d) (e : But d H H') (h : SqL K H a xs) : SqL K H' a xs := by
  rcases h with (h | ⟨o, h⟩) | h
  · exact .inl (.inl (e _ _ n h))
  · exact .inl (.inr ⟨o, e _ _ n h⟩)
  · exact .inr h
theorem But.seqT {d : Addr} {K : PySem.W.Frag} {H H' : Hp} {a : Addr} {xs : List V} (n : a ≠ d) (e : But d H H') (h : SqT K H a xs) : SqT K H' a xs := by
  rcases h with (h | ⟨o, h⟩) | h
  · exact .inl (.inl (e _ _ n h))
  · exact .inl (.inr ⟨o, e _ _ n h⟩)
  · exact .inr h
theorem _root_.L2.Same.seqT {K : PySem.W.Frag} {H H' : Hp} {a : Addr} {xs : List V} (e : Same H H') (h : SqT K H a xs) : SqT K H' a xs := by
  rcases h with (h | ⟨o, h⟩) | h
  · exact .inl (.inl (e _ _ h))
  · exact .inl (.inr ⟨o, e _ _ h⟩)
  · exact .inr h
theorem Same.put {H : Hp} {p : Addr} {o : HO} (h : H p = none) : Same H (upd H p o) := fun b u e => by rw [upd_ne (ne_of_none e h)]; exact e
theorem keep {H : Hp} {a p : Addr} {o u : HO} (np : H p = none) (h : H a = some u) : (upd H p o) a = some u := by rw [upd_ne (ne_of_none h np)]; exact h
theorem keepN {H : Hp} {a p : Addr} {o u : HO} (np : a ≠ p) (h : H a = some u) : (upd H p o) a = some u := by rw [upd_ne np]; exact h
theorem free {H : Hp} {p D : Addr} {o : HO} (h : (upd H p o) D = none) : H D = none := by
  by_cases e : D = p
  · subst e
    rw [upd_same] at h
    cases h
  · rw [upd_ne e] at h
    exact h
theorem Same.mut {H H' : Hp} {D : Addr} {o : HO} (s : Same H H') (n : H D = none) : Same H (upd H' D o) := fun b u e => by rw [upd_ne (ne_of_none e n)]; exact s _ _ e
theorem But.mut {d : Addr} {H H' : Hp} {D : Addr} {o : HO} (s : But d H H') (n : H D = none) : But d H (upd H' D o) := fun b u k e => by rw [upd_ne (ne_of_none e n)]; exact s _ _ k e
theorem set_z {α : Type} {x y : α} {xs : List α} : (x :: xs).set 0 y = y :: xs := rfl
theorem set_s {α : Type} {x y : α} {n : Nat} {xs ys : List α} (h : xs.set n y = ys) : (x :: xs).set (n + 1) y = x :: ys := by rw [← h]; rfl
/-! ### steps of a reading -/
def BLK (x : V) (H : Hp) (QB : Bool → Hp → Prop) : Prop := ∃ k, x = .bl k ∧ QB k H
def INT (xs : List V) (H : Hp) (Q : VK) : Prop := (∃ i, xs = [.int i] ∧ Q (.int i) H) ∨ ∃ k, xs = [.bl k] ∧ Q (.int (if k then 1 else 0)) H
def ABS (xs : List V) (H : Hp) (Q : VK) : Prop := ∃ i, xs = [.int i] ∧ Q (.int (if i < 0 then -i else i)) H
def MIN2 (xs : List V) (H : Hp) (Q : VK) : Prop := ∃ i j, xs = [.int i, .int j] ∧ Q (.int (if j < i then j else i)) H
def MAX2 (xs : List V) (H : Hp) (Q : VK) : Prop := ∃ i j, xs = [.int i, .int j] ∧ Q (.int (if j > i then j else i)) H
def LEN (K : PySem.W.Frag) (xs : List V) (H : Hp) (Q : VK) : Prop := ∃ p ys, xs = [.ref p] ∧ (SqL K H p ys ∨ SqT K H p ys) ∧ Q (.int ys.length) H
def NEW (mk : List V → HO) (xs : List V) (H : Hp) (Q : VK) : Prop := xs.length ≤ sizeLine ∧ ∀ p, H p = none → Q (.ref p) (upd H p (mk xs))
def DG (x y : V) (H : Hp) (Q : VK) : Prop := ∃ a v, x = .ref a ∧ DGet H a y (some v) ∧ Q v H
def DP (x y v : V) (H : Hp) (N : Hp → Prop) : Prop := ∃ a H4, x = .ref a ∧ DPut H a y v H4 ∧ N H4
def CALL (sp : Sp) (vs : List V) (H : Hp) (Q : VK) (E : XK) : Prop := sp (vs ++ []) H Q E
def SLOT (nx : L2.St → Hp → Prop) (σ : L2.St) (H : Hp) : Prop := nx σ H
section
variable {K : PySem.W.Frag} {σ σ' : L2.St} {H H' : Hp} {Q : VK} {QB : Bool → Hp → Prop} {QA : List V → Hp → Prop} {ta tb te tc : TE} {t u : TT} {tr : TA} {i j : Int} {v x y : V} {nx bk ct : L2.St → Hp → Prop} {rt : VK} {s1 s2 : TS} {b : Bool}
theorem start {t : TS} {D : Ends} {σ σ' : L2.St} (e : σ = σ') (q : t D σ' H) : t D σ H := by rw [e]; exact q
theorem var {i : Nat} (h : σ[i]? = some (some v)) (q : Q v H) : tVar i σ H Q := ⟨v, h, q⟩
theorem cst (q : Q v H) : tC v σ H Q := q
theorem op {r : R2} (q : ta σ H fun x H1 => tb σ H1 fun y H2 => r x y H2 Q) : tOp r ta tb σ H Q := q
theorem un {r : V → Hp → VK → Prop} (q : ta σ H fun x H1 => r x H1 Q) : tUn r ta σ H Q := q
theorem i0 {g : Int → Int → V} (q : Q (g i j) H) : rI0 g (.int i) (.int j) H Q := ⟨i, j, rfl, rfl, q⟩
theorem i1 {C : Int → Int → Prop} {g : Int → Int → V} (c : C i j) (q : Q (g i j) H) : rI C g (.int i) (.int j) H Q := ⟨i, j, rfl, rfl, c, q⟩
theorem u1 {g : Int → V} (q : Q (g i) H) : rU g (.int i) H Q := ⟨i, rfl, q⟩
theorem eqI (q : Q (.bl (decide (i = j))) H) : rEq (.int i) (.int j) H Q := ⟨rfl, by
  have e : decide (V.int i = V.int j) = decide (i = j) := by
    by_cases h : i = j
    · rw [decide_eq_true h, decide_eq_true (congrArg V.int h)]
    · rw [decide_eq_false h, decide_eq_false (fun z => h (V.int.inj z))]
  rw [e]; exact q⟩
theorem neI (q : Q (.bl (!decide (i = j))) H) : rNe (.int i) (.int j) H Q := ⟨rfl, by
  have e : decide (V.int i = V.int j) = decide (i = j) := by
    by_cases h : i = j
    · rw [decide_eq_true h, decide_eq_true (congrArg V.int h)]
    · rw [decide_eq_false h, decide_eq_false (fun z => h (V.int.inj z))]
  rw [e]; exact q⟩
theorem eqB {a b : Bool} (q : Q (.bl (decide (a = b))) H) : rEq (.bl a) (.bl b) H Q := ⟨rfl, by
  have e : decide (V.bl a = V.bl b) = decide (a = b) := by
    by_cases h : a = b
    · rw [decide_eq_true h, decide_eq_true (congrArg V.bl h)]
    · rw [decide_eq_false h, decide_eq_false (fun z => h (V.bl.inj z))]
  rw [e]; exact q⟩
theorem eqS {a b : Str} (q : Q (.bl (decide (a = b))) H) : rEq (.str a) (.str b) H Q := ⟨rfl, by
  have e : decide (V.str a = V.str b) = decide (a = b) := by
    by_cases h : a = b
    · rw [decide_eq_true h, decide_eq_true (congrArg V.str h)]
    · rw [decide_eq_false h, decide_eq_false (fun z => h (V.str.inj z))]
  rw [e]; exact q⟩
theorem neS {a b : Str} (q : Q (.bl (!decide (a = b))) H) : rNe (.str a) (.str b) H Q := ⟨rfl, by
  have e : decide (V.str a = V.str b) = decide (a = b) := by
    by_cases h : a = b
    · rw [decide_eq_true h, decide_eq_true (congrArg V.str h)]
    · rw [decide_eq_false h, decide_eq_false (fun z => h (V.str.inj z))]
  rw [e]; exact q⟩
theorem tst (q : te σ H fun x H' => BLK x H' QB) : tTest te σ H QB := q
theorem tB (q : te σ H fun x H' => BLK x H' QB) : L2.tB te σ H QB := q
theorem blk (q : QB b H) : BLK (V.bl b) H QB := ⟨b, rfl, q⟩
theorem tnot (q : t σ H fun c H1 => QB (!c) H1) : tNot t σ H QB := q
theorem tand (q : t σ H fun c H1 => if c = true then u σ H1 QB else QB false H1) : tAnd t u σ H QB := q
theorem tor (q : t σ H fun c H1 => if c = true then QB true H1 else u σ H1 QB) : tOr t u σ H QB := q
theorem andV (q : ta σ H fun x H1 => BLK x H1 fun c H1 => if c = true then tb σ H1 Q else Q (.bl false) H1) : tAndV ta tb σ H Q := q
theorem orV (q : ta σ H fun x H1 => BLK x H1 fun c H1 => if c = true then Q (.bl true) H1 else tb σ H1 Q) : tOrV ta tb σ H Q := q
theorem notV (q : ta σ H fun x H1 => BLK x H1 fun c H1 => Q (.bl (!c)) H1) : tNotV ta σ H Q := q
theorem ifE (q : t σ H fun c H1 => if c = true then ta σ H1 Q else tb σ H1 Q) : tIf t ta tb σ H Q := q
theorem chain {r r' : R2} (q : ta σ H fun x H1 => tb σ H1 fun y H2 => r x y H2 fun z H3 => BLK z H3 fun k H3 => if k = true then tc σ H3 fun w' H4 => r' y w' H4 Q else Q (.bl false) H3) : tChain r r' ta tb tc σ H Q := q
theorem ite {c A B : Prop} [Decidable c] (h1 : c → A) (h2 : ¬ c → B) : if decide c = true then A else B := by
  by_cases h : c
  · rw [decide_eq_true h, if_pos rfl]; exact h1 h
  · rw [decide_eq_false h, if_neg Bool.false_ne_true]; exact h2 h
theorem iteN {c A B : Prop} [Decidable c] (h1 : c → B) (h2 : ¬ c → A) : if (!decide c) = true then A else B := by
  by_cases h : c
  · rw [decide_eq_true h]; exact iteF (h1 h)
  · rw [decide_eq_false h]; exact iteT (h2 h)
theorem iteP {c A B : Prop} [Decidable c] (h : c) (q : A) : if decide c = true then A else B := by rw [decide_eq_true h]; exact iteT q
theorem iteM {c A B : Prop} [Decidable c] (h : ¬ c) (q : B) : if decide c = true then A else B := by rw [decide_eq_false h]; exact iteF q
theorem iteNP {c A B : Prop} [Decidable c] (h : c) (q : B) : if (!decide c) = true then A else B := by rw [decide_eq_true h]; exact iteF q
theorem iteNM {c A B : Prop} [Decidable c] (h : ¬ c) (q : A) : if (!decide c) = true then A else B := by rw [decide_eq_false h]; exact iteT q
theorem iteNt {A B : Prop} (q : B) : if (!true) = true then A else B := q
theorem iteNf {A B : Prop} (q : A) : if (!false) = true then A else B := iteT q
theorem anil (q : QA [] H) : tNil σ H QA := q
theorem acons (q : te σ H fun x H1 => tr σ H1 fun xs H2 => QA (x :: xs) H2) : tCons te tr σ H QA := q
theorem cb {r : List V → Hp → VK → Prop} (q : tr σ H fun vs H1 => r vs H1 Q) : tCB r tr σ H Q := q
theorem call {sp : Sp} {E : XK} (q : tr σ H fun vs H1 => CALL sp vs H1 Q E) : tCall sp [] E tr σ H Q := q
theorem cbInt (q : tr σ H fun vs H1 => INT vs H1 Q) : tCB (fun xs H Q => (∃ i, xs = [.int i] ∧ Q (.int i) H) ∨ ∃ k, xs = [.bl k] ∧ Q (.int (if k then 1 else 0)) H) tr σ H Q := q
theorem int1 (q : Q (.int i) H) : INT [V.int i] H Q := .inl ⟨i, rfl, q⟩
theorem cbAbs (q : tr σ H fun vs H1 => ABS vs H1 Q) : tCB (fun xs H Q => ∃ i, xs = [.int i] ∧ Q (.int (if i < 0 then -i else i)) H) tr σ H Q := q
theorem abs1 (q : Q (.int (if i < 0 then -i else i)) H) : ABS [V.int i] H Q := ⟨i, rfl, q⟩
theorem cbMin (q : tr σ H fun vs H1 => MIN2 vs H1 Q) : tCB (fun xs H Q => ∃ i j, xs = [.int i, .int j] ∧ Q (.int (if j < i then j else i)) H) tr σ H Q := q
theorem min2 (q : Q (.int (if j < i then j else i)) H) : MIN2 [V.int i, V.int j] H Q := ⟨i, j, rfl, q⟩
theorem cbMax (q : tr σ H fun vs H1 => MAX2 vs H1 Q) : tCB (fun xs H Q => ∃ i j, xs = [.int i, .int j] ∧ Q (.int (if j > i then j else i)) H) tr σ H Q := q
theorem max2 (q : Q (.int (if j > i then j else i)) H) : MAX2 [V.int i, V.int j] H Q := ⟨i, j, rfl, q⟩
theorem cbLen (q : tr σ H fun vs H1 => LEN K vs H1 Q) : tCB (fun xs H Q => ∃ p ys, xs = [.ref p] ∧ (SqL K H p ys ∨ SqT K H p ys) ∧ Q (.int ys.length) H) tr σ H Q := q
theorem lenL {a : Addr} {xs : List V} (h : SqL K H a xs) (q : Q (.int xs.length) H) : LEN K [V.ref a] H Q := ⟨a, xs, rfl, .inl h, q⟩
theorem lenT {a : Addr} {xs : List V} (h : SqT K H a xs) (q : Q (.int xs.length) H) : LEN K [V.ref a] H Q := ⟨a, xs, rfl, .inr h, q⟩
theorem ixL {a : Addr} {xs : List V} (h : SqL K H a xs) (e : atI xs i = some v) (q : Q v H) : rIxL K (.ref a) (.int i) H Q := ⟨a, xs, i, v, rfl, rfl, h, e, q⟩
theorem ixT {a : Addr} {xs : List V} (h : SqT K H a xs) (e : atI xs i = some v) (q : Q v H) : rIxT K (.ref a) (.int i) H Q := ⟨a, xs, i, v, rfl, rfl, h, e, q⟩
theorem lst (q : tr σ H fun xs H1 => NEW HO.lst xs H1 Q) : tLst tr σ H Q := q
theorem tup (q : tr σ H fun xs H1 => NEW HO.tup xs H1 Q) : tTup tr σ H Q := q
theorem new {mk : List V → HO} {xs : List V} (h : xs.length ≤ 1000) (q : ∀ p, H p = none → Q (.ref p) (upd H p (mk xs))) : NEW mk xs H Q := ⟨Nat.le_of_lt (small1000 h), q⟩
theorem dget {td ty : TE} (q : td σ H fun x H1 => ty σ H1 fun y H2 => DG x y H2 Q) : tDGet td ty σ H Q := q
theorem dgetS {a : Addr} {kvs : List (Key × V)} {z : Str} (h : H a = some (.dK kvs)) (hv : valV kvs (Sum.inr z : Key) = some v) (q : Q v H) : DG (.ref a) (.str z) H Q :=
  ⟨a, v, rfl, by rw [← hv]; exact DGet.k (k := Sum.inr z) h, q⟩
theorem cmulL (h : -18446744073709551616 < i) (h2 : i < 18446744073709551616) : CMul i j := .inl ⟨by omega, by omega⟩
theorem cmulR (h : -18446744073709551616 < j) (h2 : j < 18446744073709551616) : CMul i j := .inr ⟨by omega, by omega⟩
theorem cpow (h : 0 ≤ j) (h2 : j ≤ 1000000) (h3 : i.natAbs < 18446744073709551616) : CPow i j := ⟨h, h2, by omega⟩
theorem cdiv (h : 0 < j) (h2 : j < 18446744073709551616) : CDivW i j := wide_div (b := 64) h (by omega) (by decide) (by decide)
/-! statements -/
theorem seq (q : s1 ⟨s2 ⟨nx, rt, bk, ct⟩, rt, bk, ct⟩ σ H) : tSeq s1 s2 ⟨nx, rt, bk, ct⟩ σ H := q
theorem nxt (q : nx σ H) : tNext ⟨nx, rt, bk, ct⟩ σ H := q
theorem asg {i : Nat} (q : te σ H fun x H1 => SLOT nx (σ.set i (some x)) H1) : tAsg te (gName i) ⟨nx, rt, bk, ct⟩ σ H := q
theorem slot {σ' : L2.St} (e : σ = σ') (q : nx σ' H) : SLOT nx σ H := by rw [e]; exact q
theorem slot0 {z y : Option V} {r : L2.St} (q : nx (y :: r) H) : SLOT nx (List.set (z :: r) 0 y) H := q
theorem slot1 {x0 z y : Option V} {r : L2.St} (q : nx (x0 :: y :: r) H) : SLOT nx (List.set (x0 :: z :: r) 1 y) H := q
theorem slot2 {x0 x1 z y : Option V} {r : L2.St} (q : nx (x0 :: x1 :: y :: r) H) : SLOT nx (List.set (x0 :: x1 :: z :: r) 2 y) H := q
theorem slot3 {x0 x1 x2 z y : Option V} {r : L2.St} (q : nx (x0 :: x1 :: x2 :: y :: r) H) : SLOT nx (List.set (x0 :: x1 :: x2 :: z :: r) 3 y) H := q
theorem slot4 {x0 x1 x2 x3 z y : Option V} {r : L2.St} (q : nx (x0 :: x1 :: x2 :: x3 :: y :: r) H) : SLOT nx (List.set (x0 :: x1 :: x2 :: x3 :: z :: r) 4 y) H := q
theorem slot5 {x0 x1 x2 x3 x4 z y : Option V} {r : L2.St} (q : nx (x0 :: x1 :: x2 :: x3 :: x4 :: y :: r) H) : SLOT nx (List.set (x0 :: x1 :: x2 :: x3 :: x4 :: z :: r) 5 y) H := q
theorem slot6 {x0 x1 x2 x3 x4 x5 z y : Option V} {r : L2.St} (q : nx (x0 :: x1 :: x2 :: x3 :: x4 :: x5 :: y :: r) H) : SLOT nx (List.set (x0 :: x1 :: x2 :: x3 :: x4 :: x5 :: z :: r) 6 y) H := q
theorem slot7 {x0 x1 x2 x3 x4 x5 x6 z y : Option V} {r : L2.St} (q : nx (x0 :: x1 :: x2 :: x3 :: x4 :: x5 :: x6 :: y :: r) H) : SLOT nx (List.set (x0 :: x1 :: x2 :: x3 :: x4 :: x5 :: x6 :: z :: r) 7 y) H := q
theorem slot8 {x0 x1 x2 x3 x4 x5 x6 x7 z y : Option V} {r : L2.St} (q : nx (x0 :: x1 :: x2 :: x3 :: x4 :: x5 :: x6 :: x7 :: y :: r) H) : SLOT nx (List.set (x0 :: x1 :: x2 :: x3 :: x4 :: x5 :: x6 :: x7 :: z :: r) 8 y) H := q
theorem slot9 {x0 x1 x2 x3 x4 x5 x6 x7 x8 z y : Option V} {r : L2.St} (q : nx (x0 :: x1 :: x2 :: x3 :: x4 :: x5 :: x6 :: x7 :: x8 :: y :: r) H) : SLOT nx (List.set (x0 :: x1 :: x2 :: x3 :: x4 :: x5 :: x6 :: x7 :: x8 :: z :: r) 9 y) H := q
theorem slot10 {x0 x1 x2 x3 x4 x5 x6 x7 x8 x9 z y : Option V} {r : L2.St} (q : nx (x0 :: x1 :: x2 :: x3 :: x4 :: x5 :: x6 :: x7 :: x8 :: x9 :: y :: r) H) : SLOT nx (List.set (x0 :: x1 :: x2 :: x3 :: x4 :: x5 :: x6 :: x7 :: x8 :: x9 :: z :: r) 10 y) H := q
theorem slot11 {x0 x1 x2 x3 x4 x5 x6 x7 x8 x9 x10 z y : Option V} {r : L2.St} (q : nx (x0 :: x1 :: x2 :: x3 :: x4 :: x5 :: x6 :: x7 :: x8 :: x9 :: x10 :: y :: r) H) : SLOT nx (List.set (x0 :: x1 :: x2 :: x3 :: x4 :: x5 :: x6 :: x7 :: x8 :: x9 :: x10 :: z :: r) 11 y) H := q
theorem slot12 {x0 x1 x2 x3 x4 x5 x6 x7 x8 x9 x10 x11 z y : Option V} {r : L2.St} (q : nx (x0 :: x1 :: x2 :: x3 :: x4 :: x5 :: x6 :: x7 :: x8 :: x9 :: x10 :: x11 :: y :: r) H) : SLOT nx (List.set (x0 :: x1 :: x2 :: x3 :: x4 :: x5 :: x6 :: x7 :: x8 :: x9 :: x10 :: x11 :: z :: r) 12 y) H := q
theorem slot13 {x0 x1 x2 x3 x4 x5 x6 x7 x8 x9 x10 x11 x12 z y : Option V} {r : L2.St} (q : nx (x0 :: x1 :: x2 :: x3 :: x4 :: x5 :: x6 :: x7 :: x8 :: x9 :: x10 :: x11 :: x12 :: y :: r) H) : SLOT nx (List.set (x0 :: x1 :: x2 :: x3 :: x4 :: x5 :: x6 :: x7 :: x8 :: x9 :: x10 :: x11 :: x12 :: z :: r) 13 y) H := q
theorem slot14 {x0 x1 x2 x3 x4 x5 x6 x7 x8 x9 x10 x11 x12 x13 z y : Option V} {r : L2.St} (q : nx (x0 :: x1 :: x2 :: x3 :: x4 :: x5 :: x6 :: x7 :: x8 :: x9 :: x10 :: x11 :: x12 :: x13 :: y :: r) H) : SLOT nx (List.set (x0 :: x1 :: x2 :: x3 :: x4 :: x5 :: x6 :: x7 :: x8 :: x9 :: x10 :: x11 :: x12 :: x13 :: z :: r) 14 y) H := q
theorem slot15 {x0 x1 x2 x3 x4 x5 x6 x7 x8 x9 x10 x11 x12 x13 x14 z y : Option V} {r : L2.St} (q : nx (x0 :: x1 :: x2 :: x3 :: x4 :: x5 :: x6 :: x7 :: x8 :: x9 :: x10 :: x11 :: x12 :: x13 :: x14 :: y :: r) H) : SLOT nx (List.set (x0 :: x1 :: x2 :: x3 :: x4 :: x5 :: x6 :: x7 :: x8 :: x9 :: x10 :: x11 :: x12 :: x13 :: x14 :: z :: r) 15 y) H := q
theorem slot16 {x0 x1 x2 x3 x4 x5 x6 x7 x8 x9 x10 x11 x12 x13 x14 x15 z y : Option V} {r : L2.St} (q : nx (x0 :: x1 :: x2 :: x3 :: x4 :: x5 :: x6 :: x7 :: x8 :: x9 :: x10 :: x11 :: x12 :: x13 :: x14 :: x15 :: y :: r) H) : SLOT nx (List.set (x0 :: x1 :: x2 :: x3 :: x4 :: x5 :: x6 :: x7 :: x8 :: x9 :: x10 :: x11 :: x12 :: x13 :: x14 :: x15 :: z :: r) 16 y) H := q
theorem slot17 {x0 x1 x2 x3 x4 x5 x6 x7 x8 x9 x10 x11 x12 x13 x14 x15 x16 z y : Option V} {r : L2.St} (q : nx (x0 :: x1 :: x2 :: x3 :: x4 :: x5 :: x6 :: x7 :: x8 :: x9 :: x10 :: x11 :: x12 :: x13 :: x14 :: x15 :: x16 :: y :: r) H) : SLOT nx (List.set (x0 :: x1 :: x2 :: x3 :: x4 :: x5 :: x6 :: x7 :: x8 :: x9 :: x10 :: x11 :: x12 :: x13 :: x14 :: x15 :: x16 :: z :: r) 17 y) H := q
theorem slot18 {x0 x1 x2 x3 x4 x5 x6 x7 x8 x9 x10 x11 x12 x13 x14 x15 x16 x17 z y : Option V} {r : L2.St} (q : nx (x0 :: x1 :: x2 :: x3 :: x4 :: x5 :: x6 :: x7 :: x8 :: x9 :: x10 :: x11 :: x12 :: x13 :: x14 :: x15 :: x16 :: x17 :: y :: r) H) : SLOT nx (List.set (x0 :: x1 :: x2 :: x3 :: x4 :: x5 :: x6 :: x7 :: x8 :: x9 :: x10 :: x11 :: x12 :: x13 :: x14 :: x15 :: x16 :: x17 :: z :: r) 18 y) H := q
theorem slot19 {x0 x1 x2 x3 x4 x5 x6 x7 x8 x9 x10 x11 x12 x13 x14 x15 x16 x17 x18 z y : Option V} {r : L2.St} (q : nx (x0 :: x1 :: x2 :: x3 :: x4 :: x5 :: x6 :: x7 :: x8 :: x9 :: x10 :: x11 :: x12 :: x13 :: x14 :: x15 :: x16 :: x17 :: x18 :: y :: r) H) : SLOT nx (List.set (x0 :: x1 :: x2 :: x3 :: x4 :: x5 :: x6 :: x7 :: x8 :: x9 :: x10 :: x11 :: x12 :: x13 :: x14 :: x15 :: x16 :: x17 :: x18 :: z :: r) 19 y) H := q
theorem slot20 {x0 x1 x2 x3 x4 x5 x6 x7 x8 x9 x10 x11 x12 x13 x14 x15 x16 x17 x18 x19 z y : Option V} {r : L2.St} (q : nx (x0 :: x1 :: x2 :: x3 :: x4 :: x5 :: x6 :: x7 :: x8 :: x9 :: x10 :: x11 :: x12 :: x13 :: x14 :: x15 :: x16 :: x17 :: x18 :: x19 :: y :: r) H) : SLOT nx (List.set (x0 :: x1 :: x2 :: x3 :: x4 :: x5 :: x6 :: x7 :: x8 :: x9 :: x10 :: x11 :: x12 :: x13 :: x14 :: x15 :: x16 :: x17 :: x18 :: x19 :: z :: r) 20 y) H := q
theorem slot21 {x0 x1 x2 x3 x4 x5 x6 x7 x8 x9 x10 x11 x12 x13 x14 x15 x16 x17 x18 x19 x20 z y : Option V} {r : L2.St} (q : nx (x0 :: x1 :: x2 :: x3 :: x4 :: x5 :: x6 :: x7 :: x8 :: x9 :: x10 :: x11 :: x12 :: x13 :: x14 :: x15 :: x16 :: x17 :: x18 :: x19 :: x20 :: y :: r) H) : SLOT nx (List.set (x0 :: x1 :: x2 :: x3 :: x4 :: x5 :: x6 :: x7 :: x8 :: x9 :: x10 :: x11 :: x12 :: x13 :: x14 :: x15 :: x16 :: x17 :: x18 :: x19 :: x20 :: z :: r) 21 y) H := q
theorem slot22 {x0 x1 x2 x3 x4 x5 x6 x7 x8 x9 x10 x11 x12 x13 x14 x15 x16 x17 x18 x19 x20 x21 z y : Option V} {r : L2.St} (q : nx (x0 :: x1 :: x2 :: x3 :: x4 :: x5 :: x6 :: x7 :: x8 :: x9 :: x10 :: x11 :: x12 :: x13 :: x14 :: x15 :: x16 :: x17 :: x18 :: x19 :: x20 :: x21 :: y :: r) H) : SLOT nx (List.set (x0 :: x1 :: x2 :: x3 :: x4 :: x5 :: x6 :: x7 :: x8 :: x9 :: x10 :: x11 :: x12 :: x13 :: x14 :: x15 :: x16 :: x17 :: x18 :: x19 :: x20 :: x21 :: z :: r) 22 y) H := q
theorem slot23 {x0 x1 x2 x3 x4 x5 x6 x7 x8 x9 x10 x11 x12 x13 x14 x15 x16 x17 x18 x19 x20 x21 x22 z y : Option V} {r : L2.St} (q : nx (x0 :: x1 :: x2 :: x3 :: x4 :: x5 :: x6 :: x7 :: x8 :: x9 :: x10 :: x11 :: x12 :: x13 :: x14 :: x15 :: x16 :: x17 :: x18 :: x19 :: x20 :: x21 :: x22 :: y :: r) H) : SLOT nx (List.set (x0 :: x1 :: x2 :: x3 :: x4 :: x5 :: x6 :: x7 :: x8 :: x9 :: x10 :: x11 :: x12 :: x13 :: x14 :: x15 :: x16 :: x17 :: x18 :: x19 :: x20 :: x21 :: x22 :: z :: r) 23 y) H := q
theorem ret (q : te σ H rt) : tRet te ⟨nx, rt, bk, ct⟩ σ H := q
theorem retN (q : rt .non H) : tRetN ⟨nx, rt, bk, ct⟩ σ H := q
theorem ifS (q : t σ H fun b H1 => if b = true then s1 ⟨nx, rt, bk, ct⟩ σ H1 else s2 ⟨nx, rt, bk, ct⟩ σ H1) : tIfS t s1 s2 ⟨nx, rt, bk, ct⟩ σ H := q
theorem drop (q : te σ H fun _ H1 => nx σ H1) : tDrop te ⟨nx, rt, bk, ct⟩ σ H := q
theorem brk (q : bk σ H) : tBreak ⟨nx, rt, bk, ct⟩ σ H := q
theorem cnt (q : ct σ H) : tCont ⟨nx, rt, bk, ct⟩ σ H := q
theorem dput {td ty tv : TE} (q : tv σ H fun v H1 => td σ H1 fun x H2 => ty σ H2 fun y H3 => DP x y v H3 (nx σ)) : sDPut td ty tv ⟨nx, rt, bk, ct⟩ σ H := q
theorem dputS {a : Addr} {kvs kvs' : List (Key × V)} {z : Str} (h : H a = some (.dK kvs)) (hl : kvs.length ≤ 1000) (e : putK kvs (Sum.inr z : Key) v = kvs') {N : Hp → Prop} (q : N (upd H a (.dK kvs'))) : DP (V.ref a) (.str z) v H N :=
  ⟨a, _, rfl, by rw [← e]; exact DPut.k (k := Sum.inr z) h (small1000 hl), q⟩
/-! displays, comprehensions, loops -/
def DISP (p : Addr) (ps : List (V × V)) (H : Hp) (Q : VK) : Prop := H p = some (.dK []) ∧ ∃ kvs : List (Key × V), ps = kvs.map (fun kv => (kV kv.1, kv.2)) ∧ kvs.length ≤ 15 ∧ Q (.ref p) (upd H p (.dK (mergeK [] kvs)))
theorem disp {trs : List (TE × TE)} (q : ∀ p, H p = none → tPairs trs σ (upd H p (.dK [])) fun ps H2 => DISP p ps H2 Q) : tDisp trs σ H Q := q
theorem pnil {QP : List (V × V) → Hp → Prop} (q : QP [] H) : tPairs [] σ H QP := q
theorem pcons {tk tv : TE} {r : List (TE × TE)} {QP : List (V × V) → Hp → Prop} (q : tk σ H fun x H1 => tv σ H1 fun y H2 => tPairs r σ H2 fun ps H3 => QP ((x, y) :: ps) H3) : tPairs ((tk, tv) :: r) σ H QP := q
theorem dispK {p : Addr} {ps : List (V × V)} (kvs : List (Key × V)) (h : H p = some (.dK [])) (e : ps = kvs.map (fun kv => (kV kv.1, kv.2))) (hl : kvs.length ≤ 15) (q : Q (.ref p) (upd H p (.dK (mergeK [] kvs)))) : DISP p ps H Q := ⟨h, kvs, e, hl, q⟩
def LCL (K : PySem.W.Frag) (g : TG) (tt : TT) (te : TE) (vs : List Nat) (σ : L2.St) (x : V) (H : Hp) (Q : VK) : Prop := tLc (iList K (tC x)) g tt te vs σ H Q
def LCT (K : PySem.W.Frag) (g : TG) (tt : TT) (te : TE) (vs : List Nat) (σ : L2.St) (x : V) (H : Hp) (Q : VK) : Prop := tLc (iTup K (tC x)) g tt te vs σ H Q
def LCN (D : Addr) (N : Hp → Prop) (y : V) (H : Hp) : Prop := ∃ acc, H D = some (.lst acc) ∧ acc.length < sizeLine ∧ N (upd H D (.lst (acc ++ [y])))
def WIP (a b : L2.St) (N : Prop) : Prop := a = b ∧ N
theorem lcl {tl : TE} {g : TG} {vs : List Nat} (q : tl σ H fun x H1 => LCL K g t te vs σ x H1 Q) : tLc (iList K tl) g t te vs σ H Q := q
theorem lct {tl : TE} {g : TG} {vs : List Nat} (q : tl σ H fun x H1 => LCT K g t te vs σ x H1 Q) : tLc (iTup K tl) g t te vs σ H Q := q
theorem lclGo {a : Addr} {xs : List V} {g : TG} {vs : List Nat} {σ0 : L2.St} (e0 : wipe σ vs = σ0) (hS : SqL K H a xs) (Pv : Addr → Nat → Hp → Prop) (h0 : ∀ D, H D = none → Pv D 0 (upd H D (.lst []))) (hl : ∀ D i H', i ≤ xs.length → Pv D i H' → SqL K H' a xs)
    (hs : ∀ D i x H', xs[i]? = some x → Pv D i H' → g x σ0 H' fun σ2 H2 => WIP (wipe σ2 vs) σ0 (t σ2 H2 fun b H3 => if b = true then te σ2 H3 fun y H4 => LCN D (Pv D (i + 1)) y H4 else Pv D (i + 1) H3))
    (hd : ∀ D H', H D = none → Pv D xs.length H' → Q (.ref D) H') : LCL K g t te vs σ (.ref a) H Q := by
  subst e0
  exact ⟨a, rfl, ⟨xs, hS⟩, fun D nD => lc_list (Pv D) (h0 D nD) (hl D) (hs D) (fun H' => hd D H' nD)⟩
theorem lctGo {a : Addr} {xs : List V} {g : TG} {vs : List Nat} {σ0 : L2.St} (e0 : wipe σ vs = σ0) (hS : SqT K H a xs) (Pv : Addr → Nat → Hp → Prop) (h0 : ∀ D, H D = none → Pv D 0 (upd H D (.lst []))) (hl : ∀ D i H', i ≤ xs.length → Pv D i H' → SqT K H' a xs)
    (hs : ∀ D i x H', xs[i]? = some x → Pv D i H' → g x σ0 H' fun σ2 H2 => WIP (wipe σ2 vs) σ0 (t σ2 H2 fun b H3 => if b = true then te σ2 H3 fun y H4 => LCN D (Pv D (i + 1)) y H4 else Pv D (i + 1) H3))
    (hd : ∀ D H', H D = none → Pv D xs.length H' → Q (.ref D) H') : LCT K g t te vs σ (.ref a) H Q := by
  subst e0
  exact ⟨a, rfl, ⟨xs, hS⟩, fun D nD => lc_tup (Pv D) (h0 D nD) (hl D) (hs D) (fun H' => hd D H' nD)⟩
theorem lcn {D : Addr} {acc : List V} {N : Hp → Prop} (h : H D = some (.lst acc)) (hl : acc.length ≤ 1000) (q : N (upd H D (.lst (acc ++ [v])))) : LCN D N v H := ⟨acc, h, small1000 hl, q⟩
theorem wip {a b : L2.St} {N : Prop} (e : a = b) (q : N) : WIP a b N := ⟨e, q⟩
theorem gname {i : Nat} {N : L2.St → Hp → Prop} (q : SLOT N (σ.set i (some v)) H) : gName i v σ H N := q
theorem yes (q : QB true H) : tYes σ H QB := q
def FORL (K : PySem.W.Frag) (g : TG) (tb : TS) (D : Ends) (σ : L2.St) (x : V) (H : Hp) : Prop := tFor (iList K (tC x)) g tb D σ H
def FORT (K : PySem.W.Frag) (g : TG) (tb : TS) (D : Ends) (σ : L2.St) (x : V) (H : Hp) : Prop := tFor (iTup K (tC x)) g tb D σ H
def RNG1 (g : TG) (tb : TS) (D : Ends) (σ : L2.St) (vs : List V) (H : Hp) : Prop := tFor (iRng1 fun _ H Q => Q vs H) g tb D σ H
def RNG2 (g : TG) (tb : TS) (D : Ends) (σ : L2.St) (vs : List V) (H : Hp) : Prop := tFor (iRng2 fun _ H Q => Q vs H) g tb D σ H
theorem forl {tl : TE} {g : TG} {D : Ends} (q : tl σ H fun x H1 => FORL K g s1 D σ x H1) : tFor (iList K tl) g s1 D σ H := q
theorem fort {tl : TE} {g : TG} {D : Ends} (q : tl σ H fun x H1 => FORT K g s1 D σ x H1) : tFor (iTup K tl) g s1 D σ H := q
theorem forr {g : TG} {D : Ends} (q : tr σ H fun x H1 => RNG1 g s1 D σ x H1) : tFor (iRng1 tr) g s1 D σ H := q
theorem forr2 {g : TG} {D : Ends} (q : tr σ H fun x H1 => RNG2 g s1 D σ x H1) : tFor (iRng2 tr) g s1 D σ H := q
theorem forlGo {a : Addr} {xs : List V} {g : TG} (hS : SqL K H a xs) (Pv : Nat → L2.St → Hp → Prop) (h0 : Pv 0 σ H) (hl : ∀ i σ H, i ≤ xs.length → Pv i σ H → SqL K H a xs)
    (hs : ∀ i x σ H, xs[i]? = some x → Pv i σ H → g x σ H fun σ2 H2 => s1 ⟨Pv (i + 1), rt, nx, Pv (i + 1)⟩ σ2 H2) (hd : ∀ σ H, Pv xs.length σ H → nx σ H) : FORL K g s1 ⟨nx, rt, bk, ct⟩ σ (.ref a) H :=
  ⟨a, rfl, ⟨xs, hS⟩, for_list Pv h0 hl hs hd⟩
theorem fortGo {a : Addr} {xs : List V} {g : TG} (hS : SqT K H a xs) (Pv : Nat → L2.St → Hp → Prop) (h0 : Pv 0 σ H) (hl : ∀ i σ H, i ≤ xs.length → Pv i σ H → SqT K H a xs)
    (hs : ∀ i x σ H, xs[i]? = some x → Pv i σ H → g x σ H fun σ2 H2 => s1 ⟨Pv (i + 1), rt, nx, Pv (i + 1)⟩ σ2 H2) (hd : ∀ σ H, Pv xs.length σ H → nx σ H) : FORT K g s1 ⟨nx, rt, bk, ct⟩ σ (.ref a) H :=
  ⟨a, rfl, ⟨xs, hS⟩, for_tup Pv h0 hl hs hd⟩
theorem rngGo {n : Int} {g : TG} (hn : n < 4611686018427387904) (Pv : Nat → L2.St → Hp → Prop) (h0 : Pv 0 σ H)
    (hs : ∀ (i : Nat) σ H, (i : Int) < n → Pv i σ H → g (.int i) σ H fun σ2 H2 => s1 ⟨Pv (i + 1), rt, nx, Pv (i + 1)⟩ σ2 H2) (hd : ∀ σ H, Pv n.toNat σ H → nx σ H) (hn0 : -4611686018427387904 ≤ n) : RNG1 g s1 ⟨nx, rt, bk, ct⟩ σ [.int n] H :=
  ⟨n, rfl, by omega, by omega, for_range (lo := 0) (n := n.toNat) Pv h0 (fun i σ' H' hi p => by
    have e0 : (0 : Int) + (i : Int) = (i : Int) := Int.zero_add _
    rw [e0]
    exact hs i σ' H' (by omega) p) hd⟩
theorem rng2Go {lo n : Int} {g : TG} (hn : -4611686018427387904 ≤ lo ∧ lo < 4611686018427387904 ∧ -4611686018427387904 ≤ n ∧ n < 4611686018427387904) (Pv : Nat → L2.St → Hp → Prop) (h0 : Pv 0 σ H)
    (hs : ∀ (i : Nat) σ H, lo + (i : Int) < n → Pv i σ H → g (.int (lo + i)) σ H fun σ2 H2 => s1 ⟨Pv (i + 1), rt, nx, Pv (i + 1)⟩ σ2 H2) (hd : ∀ σ H, Pv (n - lo).toNat σ H → nx σ H) : RNG2 g s1 ⟨nx, rt, bk, ct⟩ σ [.int lo, .int n] H :=
  ⟨lo, n, rfl, ⟨by omega, by omega, by omega, by omega⟩, for_range (lo := lo) (n := (n - lo).toNat) Pv h0 (fun i σ' H' hi p => hs i σ' H' (by omega) p) hd⟩
theorem isi {x : V} {ty : Value} {n : String} {b : Bool} (h : TyX K H x ty) (e : PySem.W.kitOne K ty (.type n) = some b) (q : Q (.bl b) H) : rIsi K [x, .ty n] H Q := ⟨x, .ty n, ty, .type n, b, rfl, .ty n, h, e, q⟩
/-! tuples, slices, sums, comprehensions that change nothing -/
theorem at0 {α : Type} {x : α} {xs : List α} : atI (x :: xs) 0 = some x := atI_nat (j := 0) rfl
theorem at1 {α : Type} {x y : α} {xs : List α} : atI (x :: y :: xs) 1 = some y := atI_nat (j := 1) rfl
theorem at2 {α : Type} {x y z : α} {xs : List α} : atI (x :: y :: z :: xs) 2 = some z := atI_nat (j := 2) rfl
theorem at3 {α : Type} {x y z u : α} {xs : List α} : atI (x :: y :: z :: u :: xs) 3 = some u := atI_nat (j := 3) rfl
theorem at4 {α : Type} {x y z u v : α} {xs : List α} : atI (x :: y :: z :: u :: v :: xs) 4 = some v := atI_nat (j := 4) rfl
def PART (x : V) (H : Hp) (QO : Option Int → Hp → Prop) : Prop := ∃ i, x = .int i ∧ QO (some i) H
theorem sl {r : V → Option Int → Option Int → Hp → VK → Prop} {tl th : TO} (q : te σ H fun x H1 => tl σ H1 fun l H2 => th σ H2 fun u H3 => r x l u H3 Q) : tSl r te tl th σ H Q := q
theorem part {QO : Option Int → Hp → Prop} (q : te σ H fun x H1 => PART x H1 QO) : tPart te σ H QO := q
theorem part1 {QO : Option Int → Hp → Prop} (q : QO (some i) H) : PART (.int i) H QO := ⟨i, rfl, q⟩
theorem nopart {QO : Option Int → Hp → Prop} (q : QO none H) : tNoPart σ H QO := q
theorem cut1 (x : V) (xs : List V) : cutV (x :: xs) (some 1) none = xs := by
  unfold cutV
  rw [show HT.sIx (x :: xs).length 0 (some 1) = min 1 (x :: xs).length from HT.sIx_nat _ 0 1, HT.sIx_none, List.length_cons, show min 1 (xs.length + 1) = 1 by omega]
  show List.take (xs.length + 1 - 1) xs = xs
  rw [Nat.add_sub_cancel]
  exact List.take_length
theorem slT1 {a : Addr} {xs : List V} (hS : SqT K H a (x :: xs)) (q : ∀ p, H p = none → Q (.ref p) (upd H p (.tup xs))) : rSlT K (.ref a) (some 1) none H Q := by
  refine ⟨a, _, rfl, hS, ?_, ?_⟩
  · intro z
    have h1 := z.1
    rw [show HT.sIx (x :: xs).length 0 (some 1) = min 1 (x :: xs).length from HT.sIx_nat _ 0 1, List.length_cons] at h1
    omega
  · rw [cut1]
    exact q
theorem slL1 {a : Addr} {xs : List V} (hS : SqL K H a (x :: xs)) (q : ∀ p, H p = none → Q (.ref p) (upd H p (.lst xs))) : rSlL K (.ref a) (some 1) none H Q := by
  refine ⟨a, _, rfl, hS, ?_⟩
  rw [cut1]
  exact q
theorem sum1 {a : Addr} {ns : List Int} (hS : SqL K H a (ns.map V.int)) (q : Q (.int ns.sum) H) : rSum K [.ref a] H Q := ⟨a, ns, rfl, hS, q⟩
theorem any1 {a : Addr} {bs : List Bool} (hS : SqL K H a (bs.map V.bl)) (q : Q (.bl (bs.any id)) H) : rAny K [.ref a] H Q := ⟨a, bs, rfl, hS, q⟩
theorem all1 {a : Addr} {bs : List Bool} (hS : SqL K H a (bs.map V.bl)) (q : Q (.bl (bs.all id)) H) : rAll K [.ref a] H Q := ⟨a, bs, rfl, hS, q⟩
theorem catT {a c : Addr} {xs ys : List V} (ha : SqT K H a (x :: xs)) (hc : SqT K H c (y :: ys)) (hl : xs.length + ys.length ≤ 900) (q : ∀ p, H p = none → Q (.ref p) (upd H p (.tup (x :: xs ++ y :: ys)))) : rCatT K (.ref a) (.ref c) H Q :=
  ⟨a, c, _, _, rfl, rfl, ha, hc, List.cons_ne_nil _ _, Nat.le_of_lt (small1000 (by rw [List.length_cons, List.length_cons]; omega)), fun z => absurd z (List.cons_ne_nil _ _), fun _ => q⟩
def TUPO (K : PySem.W.Frag) (xs : List V) (H : Hp) (Q : VK) : Prop := ∃ p ys, xs = [.ref p] ∧ ((SqL K H p ys ∧ ∀ l, H l = none → Q (.ref l) (upd H l (.tup ys))) ∨ (SqT K H p ys ∧ Q (.ref p) H))
theorem cbTup (q : tr σ H fun vs H1 => TUPO K vs H1 Q) : tCB (fun xs H Q => ∃ p ys, xs = [.ref p] ∧ ((SqL K H p ys ∧ ∀ l, H l = none → Q (.ref l) (upd H l (.tup ys))) ∨ (SqT K H p ys ∧ Q (.ref p) H))) tr σ H Q := q
theorem tupL {a : Addr} {xs : List V} (h : SqL K H a xs) (q : ∀ l, H l = none → Q (.ref l) (upd H l (.tup xs))) : TUPO K [.ref a] H Q := ⟨a, xs, rfl, .inl ⟨h, q⟩⟩
def LSTO (K : PySem.W.Frag) (xs : List V) (H : Hp) (Q : VK) : Prop := ∃ p ys, xs = [.ref p] ∧ (SqL K H p ys ∨ SqT K H p ys) ∧ ∀ l, H l = none → Q (.ref l) (upd H l (.lst ys))
theorem cbLst (q : tr σ H fun vs H1 => LSTO K vs H1 Q) : tCB (fun xs H Q => ∃ p ys, xs = [.ref p] ∧ (SqL K H p ys ∨ SqT K H p ys) ∧ ∀ l, H l = none → Q (.ref l) (upd H l (.lst ys))) tr σ H Q := q
theorem lstT {a : Addr} {xs : List V} (h : SqT K H a xs) (q : ∀ l, H l = none → Q (.ref l) (upd H l (.lst xs))) : LSTO K [.ref a] H Q := ⟨a, xs, rfl, .inr h, q⟩
theorem lstL {a : Addr} {xs : List V} (h : SqL K H a xs) (q : ∀ l, H l = none → Q (.ref l) (upd H l (.lst xs))) : LSTO K [.ref a] H Q := ⟨a, xs, rfl, .inl h, q⟩
theorem inI_eq (k : Int) : ∀ ns : List Int, inV (.int k) (ns.map V.int) = decide (k ∈ ns)
  | [] => by simp [inV]
  | n :: r => by
    have ih := inI_eq k r
    unfold inV at ih ⊢
    rw [List.map_cons, List.any_cons, ih]
    show ((n == k) || decide (k ∈ r)) = decide (k ∈ n :: r)
    by_cases h : k = n
    · subst h
      simp
    · have h2 : ¬ n = k := fun z => h z.symm
      simp [h, h2]
theorem inI {a : Addr} {xs : List V} (ns : List Int) {k : Int} (h : SqL K H a xs) (e : xs = ns.map V.int) (q : Q (.bl (decide (k ∈ ns))) H) : rIn K false (.int k) (.ref a) H Q := by
  subst e
  refine ⟨a, _, rfl, .inl h, rfl, ?_, ?_⟩
  · rw [List.all_map]
    exact List.all_eq_true.mpr fun _ _ => rfl
  · show Q (.bl (inV (.int k) (ns.map V.int))) H
    rw [inI_eq]
    exact q
theorem lcmap {D : Addr} {ys : List V} {i : Nat} {y : V} {H0 H' : Hp} (hl : ys.length ≤ 1000) (nD : H0 D = none) (e : ys[i]? = some y) (hD : H' D = some (.lst (ys.take i))) (sm : Same H0 H') :
    LCN D (fun H2 => H2 D = some (.lst (ys.take (i + 1))) ∧ Same H0 H2) y H' := by
  refine lcn hD (by rw [List.length_take]; omega) ⟨?_, Same.mut sm nD⟩
  rw [upd_same, List.take_add_one, e]
  rfl
/-- [te for x in a tuple], which makes ys and changes nothing -/
theorem lctMap {a : Addr} {xs ys : List V} {g : TG} {vs : List Nat} {σ0 : L2.St} (e0 : wipe σ vs = σ0) (hS : SqT K H a xs) (hl : ys.length = xs.length) (h1000 : ys.length ≤ 1000)
    (hs : ∀ (i : Nat) x y H' (N : VK), xs[i]? = some x → ys[i]? = some y → Same H H' → (∀ H4, Same H' H4 → N y H4) → g x σ0 H' fun σ2 H2 => WIP (wipe σ2 vs) σ0 (te σ2 H2 N))
    (hd : ∀ D H', H D = none → H' D = some (.lst ys) → Same H H' → Q (.ref D) H') : LCT K g tYes te vs σ (.ref a) H Q := by
  refine lctGo e0 hS (fun D i H' => H D = none ∧ H' D = some (.lst (ys.take i)) ∧ Same H H') (fun D nD => ⟨nD, upd_same, Same.put nD⟩) (fun D i H' _ h => h.2.2.seqT hS) (fun D i x H' hx h => ?_) (fun D H' nD h => hd D H' nD (by rw [← hl, List.take_length] at h; exact h.2.1) h.2.2)
  obtain ⟨nD, hD, sm⟩ := h
  have hi : i < ys.length := by rw [hl]; exact (List.getElem?_eq_some_iff.mp hx).1
  refine hs i x ys[i] H' _ hx (List.getElem?_eq_getElem hi) sm fun H4 s4 => ?_
  show LCN D _ ys[i] H4
  obtain ⟨acc, a1, a2, a3⟩ := lcmap (D := D) h1000 nD (List.getElem?_eq_getElem hi) (s4 _ _ hD) (sm.trans s4)
  exact ⟨acc, a1, a2, nD, a3⟩
theorem lclMap {a : Addr} {xs ys : List V} {g : TG} {vs : List Nat} {σ0 : L2.St} (e0 : wipe σ vs = σ0) (hS : SqL K H a xs) (hl : ys.length = xs.length) (h1000 : ys.length ≤ 1000)
    (hs : ∀ (i : Nat) x y H' (N : VK), xs[i]? = some x → ys[i]? = some y → Same H H' → (∀ H4, Same H' H4 → N y H4) → g x σ0 H' fun σ2 H2 => WIP (wipe σ2 vs) σ0 (te σ2 H2 N))
    (hd : ∀ D H', H D = none → H' D = some (.lst ys) → Same H H' → Q (.ref D) H') : LCL K g tYes te vs σ (.ref a) H Q := by
  refine lclGo e0 hS (fun D i H' => H D = none ∧ H' D = some (.lst (ys.take i)) ∧ Same H H') (fun D nD => ⟨nD, upd_same, Same.put nD⟩) (fun D i H' _ h => h.2.2.seq hS) (fun D i x H' hx h => ?_) (fun D H' nD h => hd D H' nD (by rw [← hl, List.take_length] at h; exact h.2.1) h.2.2)
  obtain ⟨nD, hD, sm⟩ := h
  have hi : i < ys.length := by rw [hl]; exact (List.getElem?_eq_some_iff.mp hx).1
  refine hs i x ys[i] H' _ hx (List.getElem?_eq_getElem hi) sm fun H4 s4 => ?_
  show LCN D _ ys[i] H4
  obtain ⟨acc, a1, a2, a3⟩ := lcmap (D := D) h1000 nD (List.getElem?_eq_getElem hi) (s4 _ _ hD) (sm.trans s4)
  exact ⟨acc, a1, a2, nD, a3⟩
def LCR1 (g : TG) (tt : TT) (te : TE) (vs : List Nat) (σ : L2.St) (xs : List V) (H : Hp) (Q : VK) : Prop := tLc (iRng1 fun _ H Q => Q xs H) g tt te vs σ H Q
theorem lcr1 {g : TG} {vs : List Nat} (q : tr σ H fun xs H1 => LCR1 g t te vs σ xs H1 Q) : tLc (iRng1 tr) g t te vs σ H Q := q
theorem lcr1Go {n : Int} {g : TG} {vs : List Nat} {σ0 : L2.St} (e0 : wipe σ vs = σ0) (hn : n < 4611686018427387904) (hn0 : -4611686018427387904 ≤ n) (Pv : Addr → Nat → Hp → Prop) (h0 : ∀ D, H D = none → Pv D 0 (upd H D (.lst [])))
    (hs : ∀ D (i : Nat) H', (i : Int) < n → Pv D i H' → g (.int i) σ0 H' fun σ2 H2 => WIP (wipe σ2 vs) σ0 (t σ2 H2 fun b H3 => if b = true then te σ2 H3 fun y H4 => LCN D (Pv D (i + 1)) y H4 else Pv D (i + 1) H3))
    (hd : ∀ D H', H D = none → Pv D n.toNat H' → Q (.ref D) H') : LCR1 g t te vs σ [.int n] H Q := by
  subst e0
  exact ⟨n, rfl, by omega, by omega, fun D nD => lc_range (lo := 0) (n := n.toNat) (Pv D) (h0 D nD) (fun i H' hi p => by
    have e0 : (0 : Int) + (i : Int) = (i : Int) := Int.zero_add _
    rw [e0]
    exact hs D i H' (by omega) p) (fun H' => hd D H' nD)⟩
theorem never {P : Program} {w : World} {mg : Str → Option Value} {base : Heap} {k : Nat} {f : Addr} {fd : FuncData} {ps : List Str} : FnOk P w K mg base CX0 k f fd ps (fun _ _ _ _ => False) := ⟨fun _ _ _ _ h => h.elim, fun _ _ _ _ _ _ _ _ _ _ _ _ _ h => h.elim⟩
/-! unpacking -/
def GTUP (K : PySem.W.Frag) (n : Nat) (gs : TGs) (x : V) (σ : L2.St) (H : Hp) (N : L2.St → Hp → Prop) : Prop := gTup K n gs x σ H N
theorem asgT {n : Nat} {gs : TGs} (q : te σ H fun x H1 => GTUP K n gs x σ H1 nx) : tAsg te (gTup K n gs) ⟨nx, rt, bk, ct⟩ σ H := q
theorem gtup {a : Addr} {xs : List V} {n : Nat} {gs : TGs} {N : L2.St → Hp → Prop} (hS : SqT K H a xs) (hl : xs.length = n) (q : gs xs σ H N) : GTUP K n gs (.ref a) σ H N := ⟨a, xs, rfl, hS, hl, q⟩
theorem gcons {g : TG} {gs : TGs} {r : List V} {N : L2.St → Hp → Prop} (q : g v σ H fun σ' H' => gs r σ' H' N) : gCons g gs (v :: r) σ H N := ⟨v, r, rfl, q⟩
theorem gnil {N : L2.St → Hp → Prop} (q : N σ H) : gNil [] σ H N := ⟨rfl, q⟩
theorem gtupV {n : Nat} {gs : TGs} {N : L2.St → Hp → Prop} (q : GTUP K n gs v σ H N) : gTup K n gs v σ H N := q
/-! dicts with ints, stores, methods of lists -/
theorem dnew (q : ∀ p, H p = none → Q (.ref p) (upd H p (.dK []))) : tDNewK σ H Q := q
def DN (y x : V) (H : Hp) (Q : VK) : Prop := ∃ a o, x = .ref a ∧ DGet H a y o ∧ Q (.bl (!o.isSome)) H
theorem dnotin {ty td : TE} (q : ty σ H fun y H1 => td σ H1 fun x H2 => DN y x H2 Q) : tDNotIn ty td σ H Q := q
theorem dnI {a : Addr} {kvs : List (Key × V)} {n : Int} (h : H a = some (.dK kvs)) (q : Q (.bl (!(valV kvs (Sum.inl n : Key)).isSome)) H) : DN (.int n) (.ref a) H Q := ⟨a, _, rfl, DGet.k (k := Sum.inl n) h, q⟩
theorem dgetI {a : Addr} {kvs : List (Key × V)} {n : Int} (h : H a = some (.dK kvs)) (hv : valV kvs (Sum.inl n : Key) = some v) (q : Q v H) : DG (.ref a) (.int n) H Q :=
  ⟨a, v, rfl, by rw [← hv]; exact DGet.k (k := Sum.inl n) h, q⟩
theorem dputI {a : Addr} {kvs : List (Key × V)} {n : Int} (h : H a = some (.dK kvs)) (hl : kvs.length ≤ 1000) {N : Hp → Prop} (q : N (upd H a (.dK (putK kvs (Sum.inl n : Key) v)))) : DP (V.ref a) (.int n) v H N :=
  ⟨a, _, rfl, DPut.k (k := Sum.inl n) h (small1000 hl), q⟩
def SETL (o i v : V) (H : Hp) (N : Hp → Prop) : Prop := rSetL o i v H N
theorem asgS {to ti : TE} (q : te σ H fun v H1 => to σ H1 fun o H2 => ti σ H2 fun i H3 => SETL o i v H3 (nx σ)) : tAsg te (gSub to ti rSetL) ⟨nx, rt, bk, ct⟩ σ H := q
theorem setL {a : Addr} {xs : List V} {k : Nat} {N : Hp → Prop} (h : H a = some (.lst xs)) (e : ixN xs.length i = some k) (q : N (upd H a (.lst (xs.set k v)))) : SETL (.ref a) (.int i) v H N := ⟨a, xs, i, k, rfl, rfl, h, e, q⟩
def BM (K : PySem.W.Frag) (T : String) (x : V) (H : Hp) (N : Prop) : Prop := tyV K T x H ∧ N
theorem bm {T : String} {r : V → List V → Hp → VK → Prop} {to : TE} (q : to σ H fun x H1 => BM K T x H1 (tr σ H1 fun xs H2 => r x xs H2 Q)) : tBM K T r to tr σ H Q := q
theorem bmL {a : Addr} {xs : List V} {N : Prop} (h : H a = some (.lst xs)) (q : N) : BM K "list" (.ref a) H N := ⟨.inl ⟨rfl, _, SqL.of h⟩, q⟩
theorem app {a : Addr} {xs : List V} (h : H a = some (.lst xs)) (hl : xs.length ≤ 1000) (q : Q .non (upd H a (.lst (xs ++ [y])))) : rAppend (.ref a) [y] H Q := ⟨a, xs, y, rfl, rfl, h, small1000 hl, q⟩
theorem popAt {a : Addr} {xs : List V} {k : Nat} (h : H a = some (.lst xs)) (h0 : 0 ≤ i) (h1 : i < 1000000) (e : seqIndex? i xs.length = some k) (hy : xs[k]? = some y) (q : Q y (upd H a (.lst (xs.eraseIdx k)))) : rPopAt (.ref a) [.int i] H Q := ⟨a, xs, i, k, y, rfl, rfl, h, by omega, by omega, e, hy, q⟩
def INS (x : V) (vs : List V) (H : Hp) (Q : VK) : Prop := ∃ (l : Addr) (xs : List V) (i : Int) (y : V), x = .ref l ∧ vs = [.int i, y] ∧ H l = some (.lst xs) ∧ xs.length < sizeLine ∧ 0 ≤ i ∧ i < 2 ^ 63 ∧ Q .non (upd H l (.lst (xs.take i.toNat ++ [y] ++ xs.drop i.toNat)))
theorem ins {a : Addr} {xs : List V} (h : H a = some (.lst xs)) (hl : xs.length ≤ 1000) (h0 : 0 ≤ i) (h1 : i < 1000000) (q : Q .non (upd H a (.lst (xs.take i.toNat ++ [y] ++ xs.drop i.toNat)))) : INS (.ref a) [.int i, y] H Q := ⟨a, xs, i, y, rfl, rfl, h, small1000 hl, h0, by omega, q⟩
theorem neB {a b : Bool} (q : Q (.bl (!decide (a = b))) H) : rNe (.bl a) (.bl b) H Q := ⟨rfl, by
  have e : decide (V.bl a = V.bl b) = decide (a = b) := by
    by_cases h : a = b
    · rw [decide_eq_true h, decide_eq_true (congrArg V.bl h)]
    · rw [decide_eq_false h, decide_eq_false (fun z => h (V.bl.inj z))]
  rw [e]; exact q⟩
def NOTN (x y : V) (H : Hp) (Q : VK) : Prop := y = .non ∧ Q (.bl (!decide (x = .non))) H
def ISN (x y : V) (H : Hp) (Q : VK) : Prop := y = .non ∧ Q (.bl (decide (x = .non))) H
theorem notn (q : ta σ H fun x H1 => tb σ H1 fun y H2 => NOTN x y H2 Q) : tOp (fun x y H Q => y = .non ∧ Q (.bl (!decide (x = .non))) H) ta tb σ H Q := q
theorem isn (q : ta σ H fun x H1 => tb σ H1 fun y H2 => ISN x y H2 Q) : tOp (fun x y H Q => y = .non ∧ Q (.bl (decide (x = .non))) H) ta tb σ H Q := q
theorem notnN (q : Q (.bl false) H) : NOTN .non .non H Q := ⟨rfl, by rw [decide_eq_true rfl]; exact q⟩
theorem notnB {b : Bool} (q : Q (.bl true) H) : NOTN (.bl b) .non H Q := ⟨rfl, by rw [decide_eq_false (fun z => by cases z)]; exact q⟩
theorem notnI {i : Int} (q : Q (.bl true) H) : NOTN (.int i) .non H Q := ⟨rfl, by rw [decide_eq_false (fun z => by cases z)]; exact q⟩
theorem isnN (q : Q (.bl true) H) : ISN .non .non H Q := ⟨rfl, by rw [decide_eq_true rfl]; exact q⟩
theorem isnI {i : Int} (q : Q (.bl false) H) : ISN (.int i) .non H Q := ⟨rfl, by rw [decide_eq_false (fun z => by cases z)]; exact q⟩
/-- an and whose parts change nothing: one way -/
def tAndS (ta tb : TE) : TE := tAndV ta tb
theorem pe_andS {X : Cx} {a b : Expr} {rest : List Expr} {pos : Pos} {ta tb : TE} (ha : PE X a ta) (hb : PE X (.BoolOp .And (b :: rest) pos) tb) : PE X (.BoolOp .And (a :: b :: rest) pos) (tAndS ta tb) := pe_and ha hb
theorem andS {b1 b2 : Bool} (h1 : ∀ Q' : VK, Q' (.bl b1) H → ta σ H Q') (h2 : ∀ Q' : VK, Q' (.bl b2) H → tb σ H Q') (q : Q (.bl (b1 && b2)) H) : tAndS ta tb σ H Q := by
  refine h1 _ ⟨b1, rfl, ?_⟩
  cases b1 with
  | true => rw [if_pos rfl]; exact h2 _ (by simpa using q)
  | false => rw [if_neg Bool.false_ne_true]; simpa using q
end
end Rd

namespace K21
open PySem PySem.Spec PyProof.Rows L2
/-! ### the draws -/
section
open Rd
abbrev stK (c : Addr) (a l m : Int) : List (Key × V) := [(.inr "cells", .ref c), (.inr "at", .int a), (.inr "left", .int l), (.inr "mix", .int m)]
def DrawS (H : Hp) (d c : Addr) : Prop := ∃ (a l m : Int) (cs : List Int), H d = some (.dK (stK c a l m)) ∧ H c = some (.lst (cs.map V.int)) ∧ 0 ≤ a ∧ 0 ≤ l ∧ 0 ≤ m ∧ m < 2147483648 ∧ ∀ x ∈ cs, 0 ≤ x
theorem DrawS.new {H : Hp} {d c p : Addr} {o : HO} (np : H p = none) (S : DrawS H d c) : DrawS (upd H p o) d c := by
  obtain ⟨a, l, m, cs, h1, h2, r⟩ := S
  exact ⟨a, l, m, cs, keep np h1, keep np h2, r⟩
theorem DrawS.ne {H : Hp} {d c a : Addr} {xs : List V} (S : DrawS H d c) (h : H a = some (.lst xs)) : a ≠ d := by
  obtain ⟨_, _, _, cs, h1, _⟩ := S
  exact ne_of h h1 (by intro z; cases z)
theorem DrawS.neT {H : Hp} {d c a : Addr} {xs : List V} (S : DrawS H d c) (h : H a = some (.tup xs)) : a ≠ d := by
  obtain ⟨_, _, _, cs, h1, _⟩ := S
  exact ne_of h h1 (by intro z; cases z)
theorem DrawS.neC {H : Hp} {d c D : Addr} (S : DrawS H d c) (n : H D = none) : c ≠ D := by
  obtain ⟨_, _, _, cs, _, h2, _⟩ := S
  exact ne_of_none h2 n
/-- a list that is not the cells grows -/
theorem DrawS.putL {H : Hp} {d c D : Addr} {xs ys : List V} (S : DrawS H d c) (h : H D = some (.lst xs)) (n : c ≠ D) : DrawS (upd H D (.lst ys)) d c := by
  have nd := S.ne h
  obtain ⟨a, l, m, cs, h1, h2, r⟩ := S
  exact ⟨a, l, m, cs, keepN nd.symm h1, keepN n h2, r⟩
theorem g_cells {c : Addr} {a l m : Int} : valV (stK c a l m) (Sum.inr "cells" : Key) = some (.ref c) := by rfl
theorem g_at {c : Addr} {a l m : Int} : valV (stK c a l m) (Sum.inr "at" : Key) = some (.int a) := by rfl
theorem g_left {c : Addr} {a l m : Int} : valV (stK c a l m) (Sum.inr "left" : Key) = some (.int l) := by rfl
theorem g_mix {c : Addr} {a l m : Int} : valV (stK c a l m) (Sum.inr "mix" : Key) = some (.int m) := by rfl
theorem p_at {c : Addr} {a l m n : Int} : putK (stK c a l m) (Sum.inr "at" : Key) (.int n) = stK c n l m := by rfl
theorem p_left {c : Addr} {a l m n : Int} : putK (stK c a l m) (Sum.inr "left" : Key) (.int n) = stK c a n m := by rfl
theorem p_mix {c : Addr} {a l m n : Int} : putK (stK c a l m) (Sum.inr "mix" : Key) (.int n) = stK c a l n := by rfl
theorem p_start {c : Addr} {m : Int} : mergeK [] [((.inr "cells" : Key), V.ref c), (.inr "at", .int 0), (.inr "left", .int 0), (.inr "mix", .int m)] = stK c 0 0 m := by rfl
end

/-! the reader: steps that need no word -/
local macro_rules | `(tactic| walk_at "hp") => `(tactic| first
  | with_reducible assumption
  | exact upd_same
  | (((with_reducible apply Rd.keep); (with_reducible assumption)); walk_at "hp"))
local macro_rules | `(tactic| walk_at "slot") => `(tactic| first | with_reducible apply Rd.slot0 | with_reducible apply Rd.slot1 | with_reducible apply Rd.slot2 | with_reducible apply Rd.slot3 | with_reducible apply Rd.slot4 | with_reducible apply Rd.slot5 | with_reducible apply Rd.slot6 | with_reducible apply Rd.slot7 | with_reducible apply Rd.slot8 | with_reducible apply Rd.slot9 | with_reducible apply Rd.slot10 | with_reducible apply Rd.slot11 | with_reducible apply Rd.slot12 | with_reducible apply Rd.slot13 | with_reducible apply Rd.slot14 | with_reducible apply Rd.slot15 | with_reducible apply Rd.slot16 | with_reducible apply Rd.slot17 | with_reducible apply Rd.slot18 | with_reducible apply Rd.slot19 | with_reducible apply Rd.slot20 | with_reducible apply Rd.slot21 | with_reducible apply Rd.slot22 | with_reducible apply Rd.slot23)
local macro_rules | `(tactic| walk_at "dg") => `(tactic| first | exact g_left | exact g_at | exact g_cells | exact g_mix)
local macro_rules | `(tactic| walk_at "dp") => `(tactic| first | exact p_left | exact p_at | exact p_mix)
local macro_rules | `(tactic| walk_at "le") => `(tactic| first | decide | (simp only [List.length_map, List.length_append]; omega) | omega)
local macro_rules | `(tactic| walk_at "side") => `(tactic| first
  | with_reducible assumption
  | exact Rd.cmulL (by omega) (by omega)
  | exact Rd.cmulR (by omega) (by omega)
  | exact Rd.cpow (by decide) (by decide) (by decide)
  | exact Rd.cdiv (by omega) (by omega)
  | omega)
local macro_rules | `(tactic| walk_at "sq") => `(tactic| first
  | with_reducible assumption
  | exact SqL.of (by walk_at "hp")
  | exact SqT.of (by walk_at "hp"))
local macro_rules | `(tactic| walk_at "at") => `(tactic| first | with_reducible assumption | exact Rd.at0 | exact Rd.at1 | exact Rd.at2 | exact Rd.at3 | exact Rd.at4)
local macro_rules | `(tactic| walk_at "rd") => `(tactic| repeat (first
  | ((with_reducible apply Rd.var); exact rfl)
  | with_reducible apply Rd.cst
  | with_reducible apply Rd.notn
  | with_reducible apply Rd.isn
  | with_reducible apply Rd.op
  | with_reducible apply Rd.un
  | with_reducible apply Rd.i0
  | with_reducible apply Rd.u1
  | with_reducible apply Rd.eqI
  | with_reducible apply Rd.neI
  | with_reducible apply Rd.eqB
  | with_reducible apply Rd.eqS
  | with_reducible apply Rd.neS
  | with_reducible apply Rd.tst
  | with_reducible apply Rd.tB
  | with_reducible apply Rd.blk
  | with_reducible apply iteF
  | with_reducible apply iteT
  | with_reducible apply Rd.iteNt
  | with_reducible apply Rd.iteNf
  | with_reducible apply Rd.tnot
  | with_reducible apply Rd.tand
  | with_reducible apply Rd.tor
  | with_reducible apply Rd.andV
  | with_reducible apply Rd.orV
  | with_reducible apply Rd.notV
  | with_reducible apply Rd.ifE
  | with_reducible apply Rd.chain
  | with_reducible apply Rd.anil
  | with_reducible apply Rd.acons
  | with_reducible apply Rd.cbInt
  | with_reducible apply Rd.cbAbs
  | with_reducible apply Rd.cbMin
  | with_reducible apply Rd.cbMax
  | with_reducible apply Rd.cbLen
  | ((with_reducible apply Rd.lenL); (walk_at "sq"))
  | ((with_reducible apply Rd.lenT); (walk_at "sq"))
  | with_reducible apply Rd.min2
  | with_reducible apply Rd.max2
  | with_reducible apply Rd.cbTup
  | with_reducible apply Rd.cbLst
  | with_reducible apply Rd.cb
  | ((with_reducible apply Rd.ixL); (walk_at "sq"); (walk_at "at"))
  | ((with_reducible apply Rd.ixT); (walk_at "sq"); (walk_at "at"))
  | with_reducible apply Rd.call
  | with_reducible apply Rd.int1
  | with_reducible apply Rd.abs1
  | with_reducible apply Rd.lst
  | with_reducible apply Rd.tup
  | with_reducible apply Rd.dget
  | with_reducible apply Rd.dput
  | ((with_reducible apply Rd.dgetS); (walk_at "hp"); (walk_at "dg"))
  | ((with_reducible apply Rd.dputS); (walk_at "hp"); (walk_at "le"); (walk_at "dp"))
  | ((with_reducible apply Rd.i1); (walk_at "side"))
  | with_reducible apply Rd.seq
  | with_reducible apply Rd.nxt
  | with_reducible apply Rd.asg
  | walk_at "slot"
  | with_reducible apply Rd.ret
  | with_reducible apply Rd.retN
  | with_reducible apply Rd.ifS
  | with_reducible apply Rd.drop
  | with_reducible apply Rd.brk
  | with_reducible apply Rd.cnt
  | with_reducible apply Rd.pcons
  | with_reducible apply Rd.pnil
  | with_reducible apply Rd.lcl
  | with_reducible apply Rd.lct
  | with_reducible apply Rd.gname
  | with_reducible apply Rd.yes
  | ((with_reducible apply Rd.wip); (exact rfl))
  | with_reducible apply Rd.forl
  | with_reducible apply Rd.fort
  | with_reducible apply Rd.forr
  | with_reducible apply Rd.forr2
  | with_reducible apply Rd.sl
  | with_reducible apply Rd.part
  | with_reducible apply Rd.part1
  | with_reducible apply Rd.nopart
  | with_reducible apply Rd.lcr1
  | with_reducible apply Rd.asgT
  | ((with_reducible apply Rd.gtup); (walk_at "sq"); (exact rfl))
  | with_reducible apply Rd.gcons
  | with_reducible apply Rd.gnil
  | with_reducible apply Rd.gtupV
  | with_reducible apply Rd.dnotin
  | ((with_reducible apply Rd.dnI); (walk_at "hp"))
  | ((with_reducible apply Rd.dgetI); (walk_at "hp"); (with_reducible assumption))
  | with_reducible apply Rd.asgS
  | with_reducible apply Rd.bm
  | ((with_reducible apply Rd.bmL); (walk_at "hp"))
  | with_reducible apply Rd.neB
  | with_reducible apply Rd.notnN
  | with_reducible apply Rd.notnB
  | with_reducible apply Rd.notnI
  | with_reducible apply Rd.isnN
  | with_reducible apply Rd.isnI))
local macro_rules | `(tactic| walk_at "dec") => `(tactic| first
  | ((with_reducible apply Rd.iteP); (first | with_reducible assumption | exact rfl | decide | omega))
  | ((with_reducible apply Rd.iteM); (first | with_reducible assumption | exact rfl | decide | omega))
  | ((with_reducible apply Rd.iteNP); (first | with_reducible assumption | exact rfl | decide | omega))
  | ((with_reducible apply Rd.iteNM); (first | with_reducible assumption | exact rfl | decide | omega)))
local macro_rules | `(tactic| walk_at "go") => `(tactic| (walk_at "rd"; (repeat (walk_at "dec"; walk_at "rd"))))
section
open Rd
abbrev tObj (dd : Option Addr) (items : Array Value) (n : Nat) (sl : Array (Option Value)) : Obj := { cls := .type "tuple", dict := dd, data := .seq items n, slots := sl }
theorem tmul1 (l : Addr) (items : Array Value) (n : Nat) (dd : Option Addr) (sl : Array (Option Value)) (u : Tok) :
    Meets (Builtin.«tuple.__mul__» ⟨[.ref l, .int 1 u], []⟩) (fun _ R s => s.heap.get? l = some (tObj dd items n sl) ∧ R (.ok (.ret (Value.ref l))) s) :=
  .of_wp fun prog w A R s h => by
    obtain ⟨hp, g, d, tk, os⟩ := s
    obtain ⟨hl, h⟩ := h
    have f1 := AutoSeq1.idx_int
    wp_walk using wpAny_loadPart' hl
    exact ⟨_, rfl, h⟩
theorem tmul0 (l : Addr) (items : Array Value) (n : Nat) (dd : Option Addr) (sl : Array (Option Value)) (u : Tok) (hne : items.isEmpty = false) :
    Meets (Builtin.«tuple.__mul__» ⟨[.ref l, .int 0 u], []⟩) (fun _ R s => s.heap.get? l = some (tObj dd items n sl) ∧ R (.ok (.ret (Value.ref s.heap.objs.size))) { s with heap := s.heap.push { cls := Value.type "tuple", data := Data.seq #[] }, toks := s.toks }) :=
  .of_wp fun prog w A R s h => by
    obtain ⟨hp, g, d, tk, os⟩ := s
    obtain ⟨hl, h⟩ := h
    have f1 := AutoSeq1.idx_int
    wp_walk using wpAny_loadPart' hl
    exact ⟨_, rfl, h⟩
/-- t * k, t not empty, 0 ≤ k: once is t itself -/
def rRepA (K : PySem.W.Frag) : R2 := fun x y H Q => ∃ l k xs, x = .ref l ∧ y = .int k ∧ SqT K H l xs ∧ xs ≠ [] ∧ 0 ≤ k ∧ k ≤ 1000 ∧ xs.length ≤ 1000 ∧ (k = 1 → Q (.ref l) H) ∧ (k ≠ 1 → ∀ p, H p = none → Q (.ref p) (upd H p (.tup (List.replicate k.toNat xs).flatten)))
theorem op_repA {X : Cx} : OpR X (binaryOp .Mult) (rRepA X.K) := by
  intro pins s σ H x y v u Q I rx ry h
  obtain ⟨l, k, xs, rfl, rfl, hT, hne, k0, k1, hz, q1, q2⟩ := h
  by_cases two : 2 ≤ k
  · exact op_repT pins s σ H _ _ v u Q I rx ry ⟨l, k, xs, rfl, rfl, hT, hne, two, k1, hz, q2 (by omega)⟩
  cases rx
  obtain ⟨tk, rfl⟩ := ry
  obtain ⟨its, r, ⟨⟨cls, dd, data, sl⟩, ho, hc, n, hd⟩, hs⟩ := I.tuple hT
  simp only at hc hd
  subst hc hd
  have hle : xs.length = its.length := r.length
  have hi : its.toArray.isEmpty = false := by
    cases its with
    | cons a b => rfl
    | nil => exact absurd (List.eq_nil_of_length_eq_zero hle) hne
  by_cases one : k = 1
  · subst one
    exact wpAny_binaryOp_repeat_ref (T := "tuple") (U := "int") (by decide) ⟨_, ho, rfl⟩ (fun s' => typeIs_int s' 1 tk) noFill_tuple_mul F.fills_int_mul F.slot_int_rmul repeat_tuple F.slot_int_index.lookup
      (call_meets F.slot_int_rmul (typeIs_int s 1 tk) F.entry_int_rmul (F.args_int_rmul_2 _ _) (int_rmul_tuple 1 tk l its.toArray n dd sl)
        ⟨ho, rfl, ⟨_, ho, rfl⟩, call_meets F.slot_tuple_mul ⟨_, ho, rfl⟩ F.entry_tuple_mul (F.args_tuple_mul_2 _ _) (tmul1 l its.toArray n dd sl tk) ⟨ho, ⟨.ref l, H, I, rfl, q1 rfl⟩⟩⟩)
  · have zero : k = 0 := by omega
    subst zero
    refine wpAny_binaryOp_repeat_ref (T := "tuple") (U := "int") (by decide) ⟨_, ho, rfl⟩ (fun s' => typeIs_int s' 0 tk) noFill_tuple_mul F.fills_int_mul F.slot_int_rmul repeat_tuple F.slot_int_index.lookup
      (call_meets F.slot_int_rmul (typeIs_int s 0 tk) F.entry_int_rmul (F.args_int_rmul_2 _ _) (int_rmul_tuple 0 tk l its.toArray n dd sl)
        ⟨ho, rfl, ⟨_, ho, rfl⟩, call_meets F.slot_tuple_mul ⟨_, ho, rfl⟩ F.entry_tuple_mul (F.args_tuple_mul_2 _ _) (tmul0 l its.toArray n dd sl tk hi) ⟨ho, ?_⟩⟩)
    refine ⟨.ref s.heap.objs.size, _, I.laid (t' := s.toks) (o := .tup []) (fun b ob z => Heap.get?_push_of_some _ z) (Nat.le_refl _) ?_, rfl, q2 (by decide) _ (I.hok.fresh (Nat.le_refl _))⟩
    exact ⟨by show 0 ≤ sizeLine; exact Nat.zero_le _, [], .nil, IsTup.new _ _⟩

end
section
open Rd
variable {K : PySem.W.Frag} {H : Hp} {Q : VK}
theorem repA {a : Addr} {xs : List V} {k : Int} (hT : H a = some (.tup xs)) (hne : xs ≠ []) (k0 : 0 ≤ k) (k1 : k ≤ 1000) (hz : xs.length ≤ 1000) (q : ∀ p H', Same H H' → H' p = some (.tup (List.replicate k.toNat xs).flatten) → Q (.ref p) H') : rRepA K (.ref a) (.int k) H Q :=
  ⟨a, k, xs, rfl, rfl, SqT.of hT, hne, k0, k1, hz, fun e => by
    subst e
    exact q a H (Same.refl _) (by rw [hT]; simp), fun _ p np => q p _ (Same.put np) upd_same⟩
theorem catA {a c : Addr} {xs ys : List V} (ha : H a = some (.tup xs)) (hc : H c = some (.tup ys)) (hl : xs.length + ys.length ≤ 1000) (q : ∀ p H', Same H H' → H' p = some (.tup (xs ++ ys)) → Q (.ref p) H') : rCatA K (.ref a) (.ref c) H Q :=
  ⟨a, c, xs, ys, rfl, rfl, SqT.of ha, SqT.of hc, Nat.le_of_lt (small1000 hl), fun e => by
    subst e
    exact q c H (Same.refl _) hc, fun _ e => by
    subst e
    exact q a H (Same.refl _) (by rw [ha, List.append_nil]), fun _ _ p np => q p _ (Same.put np) upd_same⟩
theorem slA01 {a : Addr} {x : V} {xs : List V} (hT : H a = some (.tup (x :: xs))) (q : ∀ p H', Same H H' → H' p = some (.tup [x]) → Q (.ref p) H') : rSlA K (.ref a) none (some 1) H Q := by
  have e1 : HT.sIx (x :: xs).length (x :: xs).length (some 1) = 1 := by
    rw [show HT.sIx (x :: xs).length (x :: xs).length (some 1) = min 1 (x :: xs).length from HT.sIx_nat _ _ 1, List.length_cons]
    omega
  refine ⟨a, _, rfl, SqT.of hT, fun h => ?_, fun h p np => q p _ (Same.put np) ?_⟩
  · have z := h.2
    rw [e1, List.length_cons] at z
    have z2 : xs = [] := List.eq_nil_of_length_eq_zero (by omega)
    subst z2
    exact q a H (Same.refl _) hT
  · rw [upd_same]
    unfold cutV
    rw [e1, HT.sIx_none]
    rfl
theorem slA1 {a : Addr} {x : V} {xs : List V} (hT : H a = some (.tup (x :: xs))) (q : ∀ p H', Same H H' → H' p = some (.tup xs) → Q (.ref p) H') : rSlA K (.ref a) (some 1) none H Q := by
  have e1 : HT.sIx (x :: xs).length 0 (some 1) = 1 := by
    rw [show HT.sIx (x :: xs).length 0 (some 1) = min 1 (x :: xs).length from HT.sIx_nat _ _ 1, List.length_cons]
    omega
  refine ⟨a, _, rfl, SqT.of hT, fun h => ?_, fun h p np => q p _ (Same.put np) ?_⟩
  · have z := h.1
    rw [e1] at z
    omega
  · rw [upd_same, cut1]
theorem inS {a : Addr} {z : Str} {xs : List V} (h : H a = some (.lst xs)) (hf : xs.all flatV = true) (q : Q (.bl (inV (.str z) xs)) H) : rIn K false (.str z) (.ref a) H Q := ⟨a, xs, rfl, .inl (SqL.of h), rfl, hf, q⟩
theorem flat_rep (x : V) : ∀ k : Nat, (List.replicate k [x]).flatten = List.replicate k x
  | 0 => rfl
  | k + 1 => by rw [List.replicate_succ, List.flatten_cons, flat_rep x k]; rfl
end

def topS (i : Nat) : Stmt := PySem.Challenge.pw_truealmanac_k21_which_calendars_are_righ.main.body.getD i (.Pass ⟨0, 0, 0, 0⟩)
abbrev s_within : Stmt := topS 1
abbrev s_is_calendar : Stmt := topS 4
abbrev s__is_cycle_year : Stmt := topS 5
abbrev s__law_start : Stmt := topS 7
abbrev s__law_draw : Stmt := topS 8
abbrev s__law_pick : Stmt := topS 9
abbrev s__law_is : Stmt := topS 11
abbrev s__law_cycle : Stmt := topS 15
abbrev s_law : Stmt := topS 17
theorem sc_within : FnScope ["n", "low", "high"] ["n", "low", "high"] (defScope s_within) := ⟨rfl, rfl, rfl, by decide +kernel, rfl, by decide +kernel, by decide +kernel⟩
theorem sc_is_calendar : FnScope ["calendar", "years", "lengths"] ["calendar"] (defScope s_is_calendar) := ⟨rfl, rfl, rfl, by decide +kernel, rfl, by decide +kernel, by decide +kernel⟩
theorem sc__is_cycle_year : FnScope ["lengths", "length"] ["lengths"] (defScope s__is_cycle_year) := ⟨rfl, rfl, rfl, by decide +kernel, rfl, by decide +kernel, by decide +kernel⟩
theorem sc__law_start : FnScope ["script", "cell"] ["script"] (defScope s__law_start) := ⟨rfl, rfl, rfl, by decide +kernel, rfl, by decide +kernel, by decide +kernel⟩
theorem sc__law_draw : FnScope ["state", "bound", "cell", "number"] ["state", "bound"] (defScope s__law_draw) := ⟨rfl, rfl, rfl, by decide +kernel, rfl, by decide +kernel, by decide +kernel⟩
theorem sc__law_pick : FnScope ["state", "things"] ["state", "things"] (defScope s__law_pick) := ⟨rfl, rfl, rfl, by decide +kernel, rfl, by decide +kernel, by decide +kernel⟩
theorem sc__law_is : FnScope ["actual", "due"] ["actual", "due"] (defScope s__law_is) := ⟨rfl, rfl, rfl, by decide +kernel, rfl, by decide +kernel, by decide +kernel⟩
theorem sc__law_cycle : FnScope ["state", "years", "k", "most", "j"] ["state"] (defScope s__law_cycle) := ⟨rfl, rfl, rfl, by decide +kernel, rfl, by decide +kernel, by decide +kernel⟩
theorem sc_law : FnScope ["script", "state", "kind", "word", "first", "years", "months", "due", "length"] ["script"] (defScope s_law) := ⟨rfl, rfl, rfl, by decide +kernel, rfl, by decide +kernel, by decide +kernel⟩
/-- what the top has left -/
structure Txt (K : PySem.W.Frag) (mg : Str → Option Value) : Prop where
  c_DAY_LIMIT : ∃ t, mg "DAY_LIMIT" = some (.int 4000000 t)
  m_abs : mg "abs" = none
  m_all : mg "all" = none
  m_bool : mg "bool" = none
  m_int : mg "int" = none
  m_isinstance : mg "isinstance" = none
  m_len : mg "len" = none
  m_range : mg "range" = none
  m_tuple : mg "tuple" = none
  d_within : ∃ (f : Addr) (fd : FuncData), Fun K "within" "within" s_within f fd ∧ mg "within" = some (.ref f) ∧ L2.Binds K fd ["n", "low", "high"] []
  d_is_calendar : ∃ (f : Addr) (fd : FuncData), Fun K "is_calendar" "is_calendar" s_is_calendar f fd ∧ mg "is_calendar" = some (.ref f) ∧ L2.Binds K fd ["calendar"] []
  d__is_cycle_year : ∃ (f : Addr) (fd : FuncData), Fun K "_is_cycle_year" "_is_cycle_year" s__is_cycle_year f fd ∧ mg "_is_cycle_year" = some (.ref f) ∧ L2.Binds K fd ["lengths"] []
  d__law_start : ∃ (f : Addr) (fd : FuncData), Fun K "_law_start" "_law_start" s__law_start f fd ∧ mg "_law_start" = some (.ref f) ∧ L2.Binds K fd ["script"] []
  d__law_draw : ∃ (f : Addr) (fd : FuncData), Fun K "_law_draw" "_law_draw" s__law_draw f fd ∧ mg "_law_draw" = some (.ref f) ∧ L2.Binds K fd ["state", "bound"] []
  d__law_pick : ∃ (f : Addr) (fd : FuncData), Fun K "_law_pick" "_law_pick" s__law_pick f fd ∧ mg "_law_pick" = some (.ref f) ∧ L2.Binds K fd ["state", "things"] []
  d__law_is : ∃ (f : Addr) (fd : FuncData), Fun K "_law_is" "_law_is" s__law_is f fd ∧ mg "_law_is" = some (.ref f) ∧ L2.Binds K fd ["actual", "due"] []
  d__law_cycle : ∃ (f : Addr) (fd : FuncData), Fun K "_law_cycle" "_law_cycle" s__law_cycle f fd ∧ mg "_law_cycle" = some (.ref f) ∧ L2.Binds K fd ["state"] []
  d_law : ∃ (f : Addr) (fd : FuncData), Fun K "law" "law" s_law f fd ∧ mg "law" = some (.ref f) ∧ L2.Binds K fd ["script"] []
section
open Rd
variable {P : Program} {w : World} {K : PySem.W.Frag} {mg : Str → Option Value} {base : Heap}
def spDraw : Sp := fun vs H Q _ => ∃ (d cc : Addr) (b : Int), vs = [.ref d, .int b] ∧ DrawS H d cc ∧ 0 < b ∧ b < 18446744073709551616 ∧
  ∀ n H', 0 ≤ n → n < b → DrawS H' d cc → But d H H' → Q (.int n) H'
theorem draw_end {H H' : Hp} {d c : Addr} {a l m a' l' m' n : Int} {b : Int} {cs : List Int} {Q : VK} (q : ∀ n H', 0 ≤ n → n < b → DrawS H' d c → But d H H' → Q (.int n) H') (h1 : H d = some (.dK (stK c a l m))) (h2 : H c = some (.lst (cs.map V.int))) (h3 : ∀ x ∈ cs, 0 ≤ x)
    (e : H' d = some (.dK (stK c a' l' m'))) (k : But d H H') (ha : 0 ≤ a') (hl : 0 ≤ l') (h0 : 0 ≤ m') (hm : m' < 2147483648) (hn : 0 ≤ n) (hb : n < b) : Q (.int n) H' := by
  have nc : c ≠ d := ne_of h2 h1 (by intro z; cases z)
  exact q n H' hn hb ⟨a', l', m', cs, e, k _ _ nc h2, ha, hl, h0, hm, h3⟩ k
set_option maxHeartbeats 4000000 in
theorem ok_draw (T : Txt K mg) : ∃ (f : Addr) (fd : FuncData), FnOk P w K mg base CX0 1 f fd ["state", "bound"] spDraw ∧ mg "_law_draw" = some (.ref f) ∧ PySem.W.keepIn K (.ref f) = true ∧ L2.Binds K fd ["state", "bound"] [] := by
  obtain ⟨f, fd, F, g, bi⟩ := T.d__law_draw
  refine ⟨f, fd, ?_, g, F.kp, bi⟩
  refine F.ok sc__law_draw (fun vs H Q E h => ?_) (fun cdv A outer s H vs Q E hr h => ?_)
  · obtain ⟨d, cc, n, rfl, _⟩ := h; rfl
  · obtain ⟨d, c, b, rfl, ⟨a, l, m, cs, hd, hc, ha, hl, hm0, hm1, hcs⟩, hb0, hb1, q⟩ := h
    have nc : c ≠ d := ne_of hc hd (by intro z; cases z)
    refine ⟨_, (pss_cons (ps_if (PW.pt (pw_and (pt_cmpR op_eq (pe_dget (hu_of hr) (pv 0) pe_str (fun _ _ => rfl)) pe_int (nomark _)) (pw_and1 (pt_cmpR op_lt (pe_dget (hu_of hr) (pv 0) pe_str (fun _ _ => rfl)) (pe_callB call_len_seq (by rfl) T.m_len (by decide +kernel) (pa_cons (pe_dget (hu_of hr) (pv 0) pe_str (fun _ _ => rfl)) pa_nil)) (nomark _))))) (pss_cons (ps_set (i := 2) sc__law_draw.nd rfl (by first | exact Or.inl rfl | exact Or.inr rfl) (pe_ix ix_list (pe_dget (hu_of hr) (pv 0) pe_str (fun _ _ => rfl)) (pe_dget (hu_of hr) (pv 0) pe_str (fun _ _ => rfl)) (fun _ _ => rfl)))
      (pss_cons (ps_dput (hu_of hr) (pv 0) pe_str (pe_op op_add (pe_dget (hu_of hr) (pv 0) pe_str (fun _ _ => rfl)) pe_int) rfl)
      (pss_cons (ps_dput (hu_of hr) (pv 0) pe_str (pe_op op_mod (pe_callTy call_int1 (by rfl) T.m_int (by decide +kernel) (pa_cons (pe_op op_add (pe_op op_add (pe_op op_mul (pe_dget (hu_of hr) (pv 0) pe_str (fun _ _ => rfl)) pe_int) (pv 2)) pe_int) pa_nil)) pe_int) rfl)
      (pss_cons (ps_if (pt_cmpR op_lt (pv 2) (pe_op op_pow pe_int pe_int) (nomark _)) (pss_one (ps_ret (pe_op op_mod (pe_callTy call_int1 (by rfl) T.m_int (by decide +kernel) (pa_cons (pv 2) pa_nil)) (pv 1)))) pss_nil)
      (pss_one (ps_dput (hu_of hr) (pv 0) pe_str (pv 2) rfl)))))) pss_nil)
      (pss_cons (ps_if (pt_cmpR op_gt (pe_dget (hu_of hr) (pv 0) pe_str (fun _ _ => rfl)) pe_int (nomark _)) (pss_cons (ps_set (i := 3) sc__law_draw.nd rfl (by first | exact Or.inl rfl | exact Or.inr rfl) (pe_op op_mod (pe_callTy call_int1 (by rfl) T.m_int (by decide +kernel) (pa_cons (pe_dget (hu_of hr) (pv 0) pe_str (fun _ _ => rfl)) pa_nil)) (pv 1)))
      (pss_cons (ps_dput (hu_of hr) (pv 0) pe_str (pe_op op_fdivW (pe_dget (hu_of hr) (pv 0) pe_str (fun _ _ => rfl)) (pv 1)) rfl)
      (pss_one (ps_ret (pv 3))))) pss_nil)
      (pss_cons (ps_dput (hu_of hr) (pv 0) pe_str (pe_op op_mod (pe_callTy call_int1 (by rfl) T.m_int (by decide +kernel) (pa_cons (pe_op op_add (pe_op op_mul (pe_dget (hu_of hr) (pv 0) pe_str (fun _ _ => rfl)) pe_int) pe_int) pa_nil)) pe_int) rfl)
      (pss_one (ps_ret (pe_op op_mod (pe_callTy call_int1 (by rfl) T.m_int (by decide +kernel) (pa_cons (pe_op op_mod (pe_callTy call_int1 (by rfl) T.m_int (by decide +kernel) (pa_cons (pe_op op_add (pe_op op_mul (pe_dget (hu_of hr) (pv 0) pe_str (fun _ _ => rfl)) pe_int) pe_int) pa_nil)) pe_int) pa_nil)) (pv 1))))))), ?_⟩
    refine Rd.start (σ' := [some (.ref d), some (.int b), none, none]) rfl ?_
    try dsimp only [cxOf, Cx.nox, Cx.wish]
    by_cases l0 : l = 0
    · subst l0
      by_cases hin : a < ((cs.map V.int).length : Int)
      · obtain ⟨z, hz, hz0⟩ : ∃ z, atI (cs.map V.int) a = some (.int z) ∧ 0 ≤ z := by
          have e : ((a.toNat : Nat) : Int) = a := by omega
          have hlt : a.toNat < cs.length := by rw [List.length_map] at hin; omega
          have h2 : atI (cs.map V.int) ((a.toNat : Nat) : Int) = some (.int cs[a.toNat]) := atI_nat (by rw [List.getElem?_map, List.getElem?_eq_getElem hlt]; rfl)
          rw [e] at h2
          exact ⟨cs[a.toNat], h2, hcs _ (List.getElem_mem hlt)⟩
        have e18 : (10 : Int) ^ Int.toNat 18 = 1000000000000000000 := by decide
        by_cases hb : z < (10 : Int) ^ Int.toNat 18
        · walk_at "go"
          exact draw_end q hd hc hcs upd_same (But.put.trans But.put) (by omega) (by omega) (Int.emod_nonneg _ (by decide)) (by have := Int.emod_lt_of_pos (m * 48271 + z + 11) (show (0 : Int) < 2147483647 by decide); omega) (Int.emod_nonneg _ (by omega)) (Int.emod_lt_of_pos _ hb0)
        · have hz1 : 0 < z := by omega
          have hzb : 0 ≤ z / b := Int.ediv_nonneg hz0 (by omega)
          walk_at "go"
          exact draw_end q hd hc hcs upd_same (((But.put.trans But.put).trans But.put).trans But.put) (by omega) hzb (Int.emod_nonneg _ (by decide)) (by have := Int.emod_lt_of_pos (m * 48271 + z + 11) (show (0 : Int) < 2147483647 by decide); omega) (Int.emod_nonneg _ (by omega)) (Int.emod_lt_of_pos _ hb0)
      · walk_at "go"
        exact draw_end q hd hc hcs upd_same But.put (by omega) (by omega) (Int.emod_nonneg _ (by decide)) (by have := Int.emod_lt_of_pos (m * 48271 + 11) (show (0 : Int) < 2147483647 by decide); omega) (Int.emod_nonneg _ (by omega)) (Int.emod_lt_of_pos _ hb0)
    · have hlb : 0 ≤ l / b := Int.ediv_nonneg hl (by omega)
      walk_at "go"
      exact draw_end q hd hc hcs upd_same But.put ha hlb hm0 hm1 (Int.emod_nonneg _ (by omega)) (Int.emod_lt_of_pos _ hb0)
theorem draw_go {H : Hp} {d cc : Addr} {b : Int} {Q : VK} {E : XK} (S : DrawS H d cc) (h0 : 0 < b) (h1 : b < 18446744073709551616) (q : ∀ n H', 0 ≤ n → n < b → DrawS H' d cc → But d H H' → Q (.int n) H') : CALL spDraw [.ref d, .int b] H Q E := ⟨d, cc, b, rfl, S, h0, h1, q⟩
def spPick : Sp := fun vs H Q _ => ∃ (d cc l : Addr) (xs : List V), vs = [.ref d, .ref l] ∧ DrawS H d cc ∧ H l = some (.lst xs) ∧ 0 < xs.length ∧ xs.length ≤ 1000 ∧
  ∀ x H', x ∈ xs → DrawS H' d cc → But d H H' → Q x H'
set_option maxHeartbeats 4000000 in
theorem ok_pick (T : Txt K mg) : ∃ (f : Addr) (fd : FuncData), FnOk P w K mg base CX0 2 f fd ["state", "things"] spPick ∧ mg "_law_pick" = some (.ref f) ∧ PySem.W.keepIn K (.ref f) = true ∧ L2.Binds K fd ["state", "things"] [] := by
  obtain ⟨f, fd, F, g, bi⟩ := T.d__law_pick
  obtain ⟨f__law_draw, fd__law_draw, G__law_draw, g__law_draw, kp__law_draw, b__law_draw⟩ := ok_draw (P := P) (w := w) (base := base) T
  refine ⟨f, fd, ?_, g, F.kp, bi⟩
  refine F.ok sc__law_pick (fun vs H Q E h => ?_) (fun cdv A outer s H vs Q E hr h => ?_)
  · obtain ⟨d, cc, n, xs, rfl, _⟩ := h; rfl
  · obtain ⟨d, cc, l, xs, rfl, S, hl, h0, h1, q⟩ := h
    refine ⟨_, (pss_one (ps_ret (pe_ix ix_list (pv 1) (pe_call G__law_draw (hr.mono (by omega)) (by rfl) g__law_draw kp__law_draw b__law_draw .nil pass0 (pa_cons (pv 0) (pa_cons (pe_callB call_len_seq (by rfl) T.m_len (by decide +kernel) (pa_cons (pv 1) pa_nil)) pa_nil))) (fun _ _ => rfl)))), ?_⟩
    refine Rd.start (σ' := [some (.ref d), some (.ref l)]) rfl ?_
    try dsimp only [cxOf, Cx.nox, Cx.wish]
    walk_at "go"
    refine draw_go S (by omega) (by omega) fun n H1 n0 n1 S1 B1 => ?_
    have hl1 : H1 l = some (.lst xs) := B1 _ _ (S.ne hl) hl
    have hlt : n.toNat < xs.length := by omega
    have hz : atI xs n = some xs[n.toNat] := by
      have e : ((n.toNat : Nat) : Int) = n := by omega
      have h2 : atI xs ((n.toNat : Nat) : Int) = some xs[n.toNat] := atI_nat (List.getElem?_eq_getElem hlt)
      rw [e] at h2
      exact h2
    walk_at "go"
    exact q _ H1 (List.getElem_mem hlt) S1 B1
theorem pick_go {H : Hp} {d l : Addr} {xs : List V} {Q : VK} {E : XK} (S : DrawS H d cc) (hl : H l = some (.lst xs)) (h0 : 0 < xs.length) (h1 : xs.length ≤ 1000) (q : ∀ x H', x ∈ xs → DrawS H' d cc → But d H H' → Q x H') : CALL spPick [.ref d, .ref l] H Q E := ⟨d, cc, l, xs, rfl, S, hl, h0, h1, q⟩
theorem pickD {H : Hp} {d cc : Addr} {xs : List V} {σ : L2.St} {Q : VK} {E : XK} (S : DrawS H d cc) (h0 : 0 < xs.length) (h1 : xs.length ≤ 1000) (q : ∀ x H', x ∈ xs → DrawS H' d cc → But d H H' → Q x H') :
    NEW HO.lst xs H fun v H1 => tNil σ H1 fun ys H2 => CALL spPick (V.ref d :: v :: ys) H2 Q E :=
  Rd.new h1 fun p np => pick_go (S.new np) upd_same h0 h1 fun x H' hx S' B' => q x H' hx S' ((But.new np).trans B')
theorem pickI {H : Hp} {d cc : Addr} {xs : List V} {σ : L2.St} {Q : VK} {E : XK} (ks : List Int) (lo hi : Int) (S : DrawS H d cc) (e : xs = ks.map V.int) (h0 : 0 < ks.length) (h1 : ks.length ≤ 1000) (hb : ∀ k ∈ ks, lo ≤ k ∧ k ≤ hi) (q : ∀ k H', k ∈ ks → lo ≤ k → k ≤ hi → DrawS H' d cc → But d H H' → Q (.int k) H') :
    NEW HO.lst xs H fun v H1 => tNil σ H1 fun ys H2 => CALL spPick (V.ref d :: v :: ys) H2 Q E := by
  subst e
  refine pickD S (by rw [List.length_map]; exact h0) (by rw [List.length_map]; exact h1) fun x H' hx S' B' => ?_
  obtain ⟨k, hk, rfl⟩ := List.mem_map.mp hx
  exact q k H' hk (hb k hk).1 (hb k hk).2 S' B'
def spStart (K : PySem.W.Frag) : Sp := fun vs H Q _ => ∃ (a : Addr) (ns : List Int), vs = [.ref a] ∧ SqL K H a (ns.map V.int) ∧ ns.length ≤ 63 ∧ ∀ d cc H', DrawS H' d cc → Same H H' → H d = none → Q (.ref d) H'
set_option maxHeartbeats 4000000 in
theorem ok_start (T : Txt K mg) : ∃ (f : Addr) (fd : FuncData), FnOk P w K mg base CX0 1 f fd ["script"] (spStart K) ∧ mg "_law_start" = some (.ref f) ∧ PySem.W.keepIn K (.ref f) = true ∧ L2.Binds K fd ["script"] [] := by
  obtain ⟨f, fd, F, g, bi⟩ := T.d__law_start
  refine ⟨f, fd, ?_, g, F.kp, bi⟩
  refine F.ok sc__law_start (fun vs H Q E h => ?_) (fun cdv A outer s H vs Q E hr h => ?_)
  · obtain ⟨a, ns, rfl, _⟩ := h; rfl
  · obtain ⟨a, ns, rfl, hS, hlen, q⟩ := h
    refine ⟨_, (pss_one (ps_ret (pe_disp (pps_cons pe_str (pe_lc (own := [("cell", 1)]) (g := gName 1) (tt := tYes) (by rfl) sc__law_start.nd (pi_list (pv 0)) (blkOk_by (own := [("cell", 1)]) (N := ["script", "cell"]) (sc := defScope s__law_start) (by decide +kernel)) (fun _ _ _ _ _ => (pg_name (i := 1) sc__law_start.nd rfl (Or.inl rfl))) (fun _ _ _ _ _ => pts_nil) (fun _ _ _ _ _ => (pe_callB call_abs (by rfl) T.m_abs (by decide +kernel) (pa_cons (pe_callTy call_int1 (by rfl) T.m_int (by decide +kernel) (pa_cons (pv 1) pa_nil)) pa_nil)))) (pps_cons pe_str pe_int (pps_cons pe_str pe_int (pps_cons pe_str (pe_op op_add pe_int (pe_callB call_len_seq (by rfl) T.m_len (by decide +kernel) (pa_cons (pv 0) pa_nil))) pps_nil)))) (by rfl) (by rfl) (fun z => by cases z) (by decide)))), ?_⟩
    refine Rd.start (σ' := [some (.ref a), none]) rfl ?_
    try dsimp only [cxOf, Cx.nox, Cx.wish]
    refine Rd.disp fun p np => ?_
    walk_at "go"
    have hS1 : SqL K (upd H p (.dK [])) a (ns.map V.int) := (Same.put np).seq hS
    refine Rd.lclGo (σ0 := [some (.ref a), none]) rfl hS1 (fun D i H' => p ≠ D ∧ H D = none ∧ H' D = some (.lst ((((ns.map fun z => if z < 0 then -z else z)).take i).map V.int)) ∧ H' p = some (.dK []) ∧ Same H H') (fun D nD => ⟨ne_of_none upd_same nD, free nD, upd_same, keep nD upd_same, (Same.put np).trans (Same.put nD)⟩) (fun D i H' _ h => h.2.2.2.2.seq hS) (fun D i x H' hx h => ?_) (fun D H' nD h => ?_)
    · obtain ⟨npD, nDH, hD, hp, sm⟩ := h
      have hil : i < ns.length := by
        have := (List.getElem?_eq_some_iff.mp hx).1
        rw [List.length_map] at this
        exact this
      rw [List.getElem?_map, List.getElem?_eq_getElem hil] at hx
      cases hx
      walk_at "go"
      refine Rd.lcn hD (by rw [List.length_map, List.length_take]; omega) ?_
      refine ⟨npD, nDH, ?_, keepN npD hp, Same.mut sm nDH⟩
      rw [upd_same, List.take_add_one, List.getElem?_map, List.getElem?_eq_getElem hil, List.map_append]
      rfl
    · obtain ⟨npD, nDH, hD, hp, sm⟩ := h
      have hS2 : SqL K H' a (ns.map V.int) := sm.seq hS
      have hcs : ∀ x ∈ ns.map (fun z => if z < 0 then -z else z), 0 ≤ x := by
        intro x hx
        obtain ⟨z, _, rfl⟩ := List.mem_map.mp hx
        split <;> omega
      rw [List.length_map, List.take_of_length_le (by rw [List.length_map]; omega)] at hD
      walk_at "go"
      refine Rd.dispK [((.inr "cells" : Key), V.ref D), (.inr "at", .int 0), (.inr "left", .int 0), (.inr "mix", .int (7 + ((ns.map V.int).length : Int)))] hp rfl (by simp) ?_
      rw [p_start]
      refine q p D _ ⟨0, 0, _, _, upd_same, keepN npD.symm hD, by omega, by omega, by omega, ?_, hcs⟩ (Same.mut sm np) np
      rw [List.length_map]
      omega
theorem start_go {H : Hp} {a : Addr} {ns : List Int} {Q : VK} {E : XK} (hS : SqL K H a (ns.map V.int)) (hl : ns.length ≤ 63) (q : ∀ d cc H', DrawS H' d cc → Same H H' → H d = none → Q (.ref d) H') : CALL (spStart K) [.ref a] H Q E := ⟨a, ns, rfl, hS, hl, q⟩
end

section
open Rd
variable {P : Program} {w : World} {K : PySem.W.Frag} {mg : Str → Option Value} {base : Heap}
def spIs : Sp := fun vs H Q _ => ∃ a b : Bool, vs = [.bl a, .bl b] ∧ Q (.bl (decide (a = b))) H
set_option maxHeartbeats 4000000 in
theorem ok_is (T : Txt K mg) : ∃ (f : Addr) (fd : FuncData), FnOk P w K mg base CX0 1 f fd ["actual", "due"] spIs ∧ mg "_law_is" = some (.ref f) ∧ PySem.W.keepIn K (.ref f) = true ∧ L2.Binds K fd ["actual", "due"] [] := by
  obtain ⟨f, fd, F, g, bi⟩ := T.d__law_is
  refine ⟨f, fd, ?_, g, F.kp, bi⟩
  refine F.ok sc__law_is (fun vs H Q E h => ?_) (fun cdv A outer s H vs Q E hr h => ?_)
  · obtain ⟨a, b, rfl, _⟩ := h; rfl
  · obtain ⟨a, b, rfl, q⟩ := h
    refine ⟨_, (pss_one (ps_ret (pe_and (pe_callB call_isi (by rfl) T.m_isinstance (by decide +kernel) (pa_cons (pv 0) (pa_cons (pe_bltn (v := .ty "bool") (by rfl) T.m_bool (by decide +kernel) rfl) pa_nil))) (pe_one (pe_cmpR op_eq (pv 0) (pv 1) (nomark _)))))), ?_⟩
    refine Rd.start (σ' := [some (.bl a), some (.bl b)]) rfl ?_
    try dsimp only [cxOf, Cx.nox, Cx.wish]
    walk_at "go"
    refine Rd.isi (b := true) (.base (.bl a)) (kit_ty (by decide +kernel)) ?_
    walk_at "go"
    exact q
theorem is_go {H : Hp} {a b : Bool} {Q : VK} {E : XK} (q : Q (.bl (decide (a = b))) H) : CALL spIs [.bl a, .bl b] H Q E := ⟨a, b, rfl, q⟩
end

/-! ### tuples stay -/
def TupSub (H H' : Hp) : Prop := ∀ p xs, H p = some (.tup xs) → H' p = some (.tup xs)
theorem TupSub.same {H H' : Hp} (s : Same H H') : TupSub H H' := fun p _ h => s p _ h
theorem TupSub.but {H H' : Hp} {d cc : Addr} (S : DrawS H d cc) (s : Rd.But d H H') : TupSub H H' := fun p _ h => s p _ (S.neT h) h

/-! ### lists of rows: tuples of flat things -/
def Rows (H : Hp) : List Addr → List (List V) → Prop
  | [], [] => True
  | p :: ps, r :: rs => H p = some (.tup r) ∧ Rows H ps rs
  | _, _ => False
theorem Rows.len {H : Hp} : ∀ {ps : List Addr} {rs : List (List V)}, Rows H ps rs → ps.length = rs.length
  | [], [], _ => rfl
  | _ :: ps, _ :: rs, h => by rw [List.length_cons, List.length_cons, Rows.len h.2]
  | [], _ :: _, h => h.elim
  | _ :: _, [], h => h.elim
theorem Rows.sub {H H' : Hp} (s : TupSub H H') : ∀ {ps : List Addr} {rs : List (List V)}, Rows H ps rs → Rows H' ps rs
  | [], [], _ => trivial
  | _ :: _, _ :: _, h => ⟨s _ _ h.1, Rows.sub s h.2⟩
  | [], _ :: _, h => h.elim
  | _ :: _, [], h => h.elim
theorem Rows.append {H : Hp} : ∀ {ps qs : List Addr} {rs ss : List (List V)}, Rows H ps rs → Rows H qs ss → Rows H (ps ++ qs) (rs ++ ss)
  | [], _, [], _, _, h2 => h2
  | _ :: _, _, _ :: _, _, h, h2 => ⟨h.1, Rows.append h.2 h2⟩
  | [], _, _ :: _, _, h, _ => h.elim
  | _ :: _, _, [], _, h, _ => h.elim
theorem Rows.get {H : Hp} : ∀ {ps : List Addr} {rs : List (List V)} {i : Nat} {r : List V}, Rows H ps rs → rs[i]? = some r → ∃ p, ps[i]? = some p ∧ H p = some (.tup r)
  | [], [], _, _, _, e => by simp at e
  | p :: _, _ :: _, 0, _, h, e => by
    simp at e
    subst e
    exact ⟨p, rfl, h.1⟩
  | _ :: _, _ :: _, i + 1, _, h, e => by
    simp at e
    obtain ⟨p, e1, e2⟩ := Rows.get h.2 e
    exact ⟨p, by simpa using e1, e2⟩
  | [], _ :: _, _, _, h, _ => h.elim
  | _ :: _, [], _, _, h, _ => h.elim
theorem Rows.set {H : Hp} {p : Addr} {r : List V} (hp : H p = some (.tup r)) : ∀ {ps : List Addr} {rs : List (List V)} {i : Nat}, Rows H ps rs → Rows H (ps.set i p) (rs.set i r)
  | [], [], _, _ => trivial
  | _ :: _, _ :: _, 0, h => ⟨hp, h.2⟩
  | _ :: _, _ :: _, _ + 1, h => ⟨h.1, Rows.set hp h.2⟩
  | [], _ :: _, _, h => h.elim
  | _ :: _, [], _, h => h.elim
theorem Rows.erase {H : Hp} : ∀ {ps : List Addr} {rs : List (List V)} {i : Nat}, Rows H ps rs → Rows H (ps.eraseIdx i) (rs.eraseIdx i)
  | [], [], _, _ => trivial
  | _ :: _, _ :: _, 0, h => h.2
  | _ :: _, _ :: _, _ + 1, h => ⟨h.1, Rows.erase h.2⟩
  | [], _ :: _, _, h => h.elim
  | _ :: _, [], _, h => h.elim
theorem Rows.take {H : Hp} : ∀ {ps : List Addr} {rs : List (List V)} {i : Nat}, Rows H ps rs → Rows H (ps.take i) (rs.take i)
  | _, _, 0, _ => trivial
  | [], [], _ + 1, _ => trivial
  | _ :: _, _ :: _, _ + 1, h => ⟨h.1, Rows.take h.2⟩
  | [], _ :: _, _ + 1, h => h.elim
  | _ :: _, [], _ + 1, h => h.elim
theorem Rows.drop {H : Hp} : ∀ {ps : List Addr} {rs : List (List V)} {i : Nat}, Rows H ps rs → Rows H (ps.drop i) (rs.drop i)
  | _, _, 0, h => h
  | [], [], _ + 1, _ => trivial
  | _ :: _, _ :: _, i + 1, h => by
    rw [List.drop_succ_cons, List.drop_succ_cons]
    exact Rows.drop h.2
  | [], _ :: _, _ + 1, h => h.elim
  | _ :: _, [], _ + 1, h => h.elim

section
open Rd
variable {P : Program} {w : World} {K : PySem.W.Frag} {mg : Str → Option Value} {base : Heap}
def Yrs (H : Hp) (y : Addr) (yss : List (List Int)) : Prop := ∃ ps : List Addr, H y = some (.tup (ps.map V.ref)) ∧ Rows H ps (yss.map fun ys => ys.map V.int)
theorem Yrs.sub {H H' : Hp} {y : Addr} {yss : List (List Int)} (h : Yrs H y yss) (s : TupSub H H') : Yrs H' y yss := by
  obtain ⟨ps, h1, h2⟩ := h
  exact ⟨ps, s _ _ h1, h2.sub s⟩
def inB (lo n hi : Int) : Bool := decide (lo ≤ n) && decide (n ≤ hi)
def yearOk (ns : List Int) : Bool := inB 1 ns.length 14 && ns.all fun n => inB 1 n 400
def calOk (first : Int) (yss : List (List Int)) : Bool := inB (-4000000) first 4000000 && inB 1 yss.length 60 && yss.all yearOk
def spWithin : Sp := fun vs H Q _ => ∃ n lo hi : Int, vs = [.int n, .int lo, .int hi] ∧ Q (.bl (inB lo n hi)) H
theorem within_go {H : Hp} {n lo hi : Int} {Q : VK} {E : XK} (q : Q (.bl (inB lo n hi)) H) : CALL spWithin [.int n, .int lo, .int hi] H Q E := ⟨n, lo, hi, rfl, q⟩
set_option maxHeartbeats 4000000 in
theorem ok_within (T : Txt K mg) : ∃ (f : Addr) (fd : FuncData), FnOk P w K mg base CX0 1 f fd ["n", "low", "high"] spWithin ∧ mg "within" = some (.ref f) ∧ PySem.W.keepIn K (.ref f) = true ∧ L2.Binds K fd ["n", "low", "high"] [] := by
  obtain ⟨f, fd, F, g, bi⟩ := T.d_within
  refine ⟨f, fd, ?_, g, F.kp, bi⟩
  refine F.ok sc_within (fun vs H Q E h => ?_) (fun cdv A outer s H vs Q E hr h => ?_)
  · obtain ⟨n, lo, hi, rfl, _⟩ := h; rfl
  · obtain ⟨n, lo, hi, rfl, q⟩ := h
    refine ⟨_, (pss_one (ps_ret (pe_and (pe_callB call_isi (by rfl) T.m_isinstance (by decide +kernel) (pa_cons (pv 0) (pa_cons (pe_bltn (v := .ty "int") (by rfl) T.m_int (by decide +kernel) rfl) pa_nil))) (pe_and (pe_not (pe_callB call_isi (by rfl) T.m_isinstance (by decide +kernel) (pa_cons (pv 0) (pa_cons (pe_bltn (v := .ty "bool") (by rfl) T.m_bool (by decide +kernel) rfl) pa_nil)))) (pe_one (pe_chain op_le op_le (pv 1) (pv 0) (pv 2))))))), ?_⟩
    refine Rd.start (σ' := [some (.int n), some (.int lo), some (.int hi)]) rfl ?_
    try dsimp only [cxOf, Cx.nox, Cx.wish]
    walk_at "go"
    refine Rd.isi (b := true) (.base (.int n)) (kit_ty (by decide +kernel)) ?_
    walk_at "go"
    refine Rd.isi (b := false) (.base (.int n)) (kit_ty (by decide +kernel)) ?_
    unfold inB at q
    by_cases a : lo ≤ n
    · rw [decide_eq_true a, Bool.true_and] at q
      walk_at "go"
      exact q
    · rw [decide_eq_false a, Bool.false_and] at q
      walk_at "go"
      exact q
def spYear : Sp := fun vs H Q _ => ∃ (p : Addr) (ns : List Int), vs = [.ref p] ∧ H p = some (.tup (ns.map V.int)) ∧ ns.length ≤ 1000 ∧ ∀ H', Same H H' → Q (.bl (yearOk ns)) H'
theorem year_go {H : Hp} {p : Addr} {ns : List Int} {Q : VK} {E : XK} (h : H p = some (.tup (ns.map V.int))) (hl : ns.length ≤ 1000) (q : ∀ H', Same H H' → Q (.bl (yearOk ns)) H') : CALL spYear [.ref p] H Q E := ⟨p, ns, rfl, h, hl, q⟩
theorem map_all {α : Type} (f : α → Bool) (xs : List α) : (xs.map f).all id = xs.all f := by rw [List.all_map]; rfl
set_option maxHeartbeats 8000000 in
theorem ok_year (T : Txt K mg) : ∃ (f : Addr) (fd : FuncData), FnOk P w K mg base CX0 2 f fd ["lengths"] spYear ∧ mg "_is_cycle_year" = some (.ref f) ∧ PySem.W.keepIn K (.ref f) = true ∧ L2.Binds K fd ["lengths"] [] := by
  obtain ⟨f, fd, F, g, bi⟩ := T.d__is_cycle_year
  obtain ⟨f_within, fd_within, G_within, g_within, kp_within, b_within⟩ := ok_within (P := P) (w := w) (base := base) T
  refine ⟨f, fd, ?_, g, F.kp, bi⟩
  refine F.ok sc__is_cycle_year (fun vs H Q E h => ?_) (fun cdv A outer s H vs Q E hr h => ?_)
  · obtain ⟨p, ns, rfl, _⟩ := h; rfl
  · obtain ⟨p, ns, rfl, h, hl, q⟩ := h
    refine ⟨_, (pss_cons (ps_if (PW.pt (pw_or (pt_not (pt_val (pe_callB call_isi (by rfl) T.m_isinstance (by decide +kernel) (pa_cons (pv 0) (pa_cons (pe_bltn (v := .ty "tuple") (by rfl) T.m_tuple (by decide +kernel) rfl) pa_nil))))) (pw_or1 (pt_not (pt_chain op_le op_le pe_int (pe_callB call_len_seq (by rfl) T.m_len (by decide +kernel) (pa_cons (pv 0) pa_nil)) pe_int))))) (pss_one (ps_ret pe_bl)) pss_nil)
      (pss_one (ps_ret (pe_callB (cr_all rfl) (by rfl) T.m_all (by decide +kernel) (pa_cons (pe_lc (own := [("length", 1)]) (g := gName 1) (tt := tYes) (by rfl) sc__is_cycle_year.nd (pi_tup (pv 0)) (blkOk_by (own := [("length", 1)]) (N := ["lengths", "length"]) (sc := defScope s__is_cycle_year) (by decide +kernel)) (fun _ _ _ _ _ => (pg_name (i := 1) sc__is_cycle_year.nd rfl (Or.inl rfl))) (fun _ _ _ _ _ => pts_nil) (fun _ _ _ _ _ => (pe_call G_within (hr.mono (by omega)) (by rfl) g_within kp_within b_within .nil pass0 (pa_cons (pv 1) (pa_cons pe_int (pa_cons pe_int pa_nil)))))) pa_nil))))), ?_⟩
    refine Rd.start (σ' := [some (.ref p), none]) rfl ?_
    try dsimp only [cxOf, Cx.nox, Cx.wish]
    walk_at "go"
    refine Rd.isi (b := true) (.base (.tup h)) (kit_ty (by decide +kernel)) ?_
    walk_at "go"
    unfold yearOk inB at q
    have el : ((ns.map V.int).length : Int) = (ns.length : Int) := by rw [List.length_map]
    by_cases a : 1 ≤ ((ns.map V.int).length : Int)
    · have a' : (1 : Int) ≤ (ns.length : Int) := by omega
      by_cases b : ((ns.map V.int).length : Int) ≤ 14
      · have b' : (ns.length : Int) ≤ 14 := by omega
        rw [decide_eq_true a', decide_eq_true b', Bool.true_and, Bool.true_and] at q
        walk_at "go"
        refine Rd.lctMap (ys := (ns.map fun n => inB 1 n 400).map V.bl) (σ0 := [some (.ref p), none]) rfl (SqT.of h) (by simp) (by simp; omega) (fun i x y H' N hx hy sm hN => ?_) (fun D H' nD hD sm => ?_)
        · rw [List.getElem?_map] at hx
          rw [List.map_map, List.getElem?_map] at hy
          cases z : ns[i]? with
          | none => rw [z] at hx; cases hx
          | some n =>
            rw [z] at hx hy
            cases hx
            cases hy
            walk_at "go"
            refine within_go ?_
            exact hN _ (Same.refl _)
        · walk_at "go"
          refine Rd.all1 (SqL.of hD) ?_
          rw [map_all]
          exact q _ sm
      · have b' : ¬ (ns.length : Int) ≤ 14 := by omega
        rw [decide_eq_true a', decide_eq_false b'] at q
        walk_at "go"
        exact q _ (Same.refl _)
    · have a' : ¬ (1 : Int) ≤ (ns.length : Int) := by omega
      rw [decide_eq_false a'] at q
      walk_at "go"
      exact q _ (Same.refl _)
def strCal (z : Str) : Bool := decide (z = "gregorian") || decide (z = "julian")
def spCal : Sp := fun vs H Q _ => (∃ z : Str, vs = [.str z] ∧ Q (.bl (strCal z)) H) ∨
  (∃ (c y : Addr) (first : Int) (yss : List (List Int)), vs = [.ref c] ∧ H c = some (.tup [.int first, .ref y]) ∧ Yrs H y yss ∧ yss.length ≤ 900 ∧ (∀ ys ∈ yss, ys.length ≤ 1000) ∧ ∀ H', Same H H' → Q (.bl (calOk first yss)) H') ∨
  (∃ (c : Addr) (a b e : V), vs = [.ref c] ∧ H c = some (.tup [a, b, e]) ∧ Q (.bl false) H)
theorem calS_go {H : Hp} {z : Str} {Q : VK} {E : XK} (q : Q (.bl (strCal z)) H) : CALL spCal [.str z] H Q E := .inl ⟨z, rfl, q⟩
theorem calT_go {H : Hp} {c y : Addr} {first : Int} {yss : List (List Int)} {Q : VK} {E : XK} (h : H c = some (.tup [.int first, .ref y])) (hy : Yrs H y yss) (hl : yss.length ≤ 900) (hm : ∀ ys ∈ yss, ys.length ≤ 1000) (q : ∀ H', Same H H' → Q (.bl (calOk first yss)) H') : CALL spCal [.ref c] H Q E := .inr (.inl ⟨c, y, first, yss, rfl, h, hy, hl, hm, q⟩)
theorem cal3_go {H : Hp} {c : Addr} {a b e : V} {Q : VK} {E : XK} (h : H c = some (.tup [a, b, e])) (q : Q (.bl false) H) : CALL spCal [.ref c] H Q E := .inr (.inr ⟨c, a, b, e, rfl, h, q⟩)
set_option maxHeartbeats 16000000 in
theorem ok_cal (T : Txt K mg) : ∃ (f : Addr) (fd : FuncData), FnOk P w K mg base CX0 3 f fd ["calendar"] spCal ∧ mg "is_calendar" = some (.ref f) ∧ PySem.W.keepIn K (.ref f) = true ∧ L2.Binds K fd ["calendar"] [] := by
  obtain ⟨f, fd, F, g, bi⟩ := T.d_is_calendar
  obtain ⟨_, cDAY_LIMIT⟩ := T.c_DAY_LIMIT
  obtain ⟨f_within, fd_within, G_within, g_within, kp_within, b_within⟩ := ok_within (P := P) (w := w) (base := base) T
  obtain ⟨f__is_cycle_year, fd__is_cycle_year, G__is_cycle_year, g__is_cycle_year, kp__is_cycle_year, b__is_cycle_year⟩ := ok_year (P := P) (w := w) (base := base) T
  refine ⟨f, fd, ?_, g, F.kp, bi⟩
  refine F.ok sc_is_calendar (fun vs H Q E h => ?_) (fun cdv A outer s H vs Q E hr h => ?_)
  · rcases h with ⟨z, rfl, _⟩ | ⟨c, y, f, yss, rfl, _⟩ | ⟨c, a, b, e, rfl, _⟩ <;> rfl
  · have term : True := trivial
    refine ⟨_, (pss_cons (ps_if (pt_not (pt_val (pe_callB call_isi (by rfl) T.m_isinstance (by decide +kernel) (pa_cons (pv 0) (pa_cons (pe_bltn (v := .ty "tuple") (by rfl) T.m_tuple (by decide +kernel) rfl) pa_nil))))) (pss_one (ps_ret (pe_or (pe_cmpR op_eq (pv 0) pe_str (nomark _)) (pe_one (pe_cmpR op_eq (pv 0) pe_str (nomark _)))))) pss_nil)
      (pss_cons (ps_if (PW.pt (pw_or (pt_cmpR op_ne (pe_callB call_len_seq (by rfl) T.m_len (by decide +kernel) (pa_cons (pv 0) pa_nil)) pe_int (nomark _)) (pw_or1 (pt_not (pt_val (pe_call G_within (hr.mono (by omega)) (by rfl) g_within kp_within b_within .nil pass0 (pa_cons (pe_ix ix_tup (pv 0) pe_int (fun _ _ => rfl)) (pa_cons (pe_un un_neg (pe_glob (v := .int (4000000)) rfl cDAY_LIMIT ⟨_, rfl⟩)) (pa_cons (pe_glob (v := .int (4000000)) rfl cDAY_LIMIT ⟨_, rfl⟩) pa_nil))))))))) (pss_one (ps_ret pe_bl)) pss_nil)
      (pss_cons (ps_set (i := 1) sc_is_calendar.nd rfl (by first | exact Or.inl rfl | exact Or.inr rfl) (pe_ix ix_tup (pv 0) pe_int (fun _ _ => rfl)))
      (pss_cons (ps_if (PW.pt (pw_or (pt_not (pt_val (pe_callB call_isi (by rfl) T.m_isinstance (by decide +kernel) (pa_cons (pv 1) (pa_cons (pe_bltn (v := .ty "tuple") (by rfl) T.m_tuple (by decide +kernel) rfl) pa_nil))))) (pw_or1 (pt_not (pt_chain op_le op_le pe_int (pe_callB call_len_seq (by rfl) T.m_len (by decide +kernel) (pa_cons (pv 1) pa_nil)) pe_int))))) (pss_one (ps_ret pe_bl)) pss_nil)
      (pss_one (ps_ret (pe_callB (cr_all rfl) (by rfl) T.m_all (by decide +kernel) (pa_cons (pe_lc (own := [("lengths", 2)]) (g := gName 2) (tt := tYes) (by rfl) sc_is_calendar.nd (pi_tup (pv 1)) (blkOk_by (own := [("lengths", 2)]) (N := ["calendar", "years", "lengths"]) (sc := defScope s_is_calendar) (by decide +kernel)) (fun _ _ _ _ _ => (pg_name (i := 2) sc_is_calendar.nd rfl (Or.inl rfl))) (fun _ _ _ _ _ => pts_nil) (fun _ _ _ _ _ => (pe_call G__is_cycle_year (hr.mono (by omega)) (by rfl) g__is_cycle_year kp__is_cycle_year b__is_cycle_year .nil pass0 (pa_cons (pv 2) pa_nil)))) pa_nil)))))))), ?_⟩
    rcases h with ⟨z, rfl, q⟩ | ⟨c, y, first, yss, rfl, h, ⟨ps, hy, hR⟩, hl, hm, q⟩ | ⟨c, a, b, e, rfl, h, q⟩
    · refine Rd.start (σ' := [some (.str z), none, none]) rfl ?_
      try dsimp only [cxOf, Cx.nox, Cx.wish]
      walk_at "go"
      refine Rd.isi (b := false) (.base (.str z)) (kit_ty (by decide +kernel)) ?_
      unfold strCal at q
      by_cases a : z = "gregorian"
      · rw [decide_eq_true a, Bool.true_or] at q
        walk_at "go"
        exact q
      · rw [decide_eq_false a, Bool.false_or] at q
        walk_at "go"
        exact q
    · refine Rd.start (σ' := [some (.ref c), none, none]) rfl ?_
      try dsimp only [cxOf, Cx.nox, Cx.wish]
      walk_at "go"
      refine Rd.isi (b := true) (.base (.tup h)) (kit_ty (by decide +kernel)) ?_
      walk_at "go"
      refine within_go ?_
      unfold calOk at q
      have hlen : ps.length = yss.length := by rw [hR.len, List.length_map]
      cases bf : inB (-4000000) first 4000000 with
      | false =>
        rw [bf, Bool.false_and, Bool.false_and] at q
        walk_at "go"
        exact q _ (Same.refl _)
      | true =>
        rw [bf, Bool.true_and] at q
        walk_at "go"
        refine Rd.isi (b := true) (.base (.tup hy)) (kit_ty (by decide +kernel)) ?_
        walk_at "go"
        unfold inB at q
        have el : ((ps.map V.ref).length : Int) = (yss.length : Int) := by rw [List.length_map, hlen]
        by_cases a : 1 ≤ ((ps.map V.ref).length : Int)
        · have a' : (1 : Int) ≤ (yss.length : Int) := by omega
          by_cases b : ((ps.map V.ref).length : Int) ≤ 60
          · have b' : (yss.length : Int) ≤ 60 := by omega
            rw [decide_eq_true a', decide_eq_true b', Bool.true_and, Bool.true_and] at q
            walk_at "go"
            refine Rd.lctMap (ys := (yss.map yearOk).map V.bl) (σ0 := [some (.ref c), some (.ref y), none]) rfl (SqT.of hy) (by simp [hlen]) (by simp; omega) (fun i x yv H' N hx hyv sm hN => ?_) (fun D H' nD hD sm => ?_)
            · rw [List.getElem?_map] at hx
              rw [List.map_map, List.getElem?_map] at hyv
              cases z : yss[i]? with
              | none => rw [z] at hyv; cases hyv
              | some ns =>
                rw [z] at hyv
                cases hyv
                obtain ⟨p, e1, e2⟩ := hR.get (i := i) (r := ns.map V.int) (by rw [List.getElem?_map, z]; rfl)
                rw [e1] at hx
                cases hx
                walk_at "go"
                refine year_go (sm _ _ e2) (hm ns (List.mem_of_getElem? z)) fun H1 s1 => ?_
                exact hN _ s1
            · walk_at "go"
              refine Rd.all1 (SqL.of hD) ?_
              rw [map_all]
              exact q _ sm
          · have b' : ¬ (yss.length : Int) ≤ 60 := by omega
            rw [decide_eq_true a', decide_eq_false b'] at q
            walk_at "go"
            exact q _ (Same.refl _)
        · have a' : ¬ (1 : Int) ≤ (yss.length : Int) := by omega
          rw [decide_eq_false a'] at q
          walk_at "go"
          exact q _ (Same.refl _)
    · refine Rd.start (σ' := [some (.ref c), none, none]) rfl ?_
      try dsimp only [cxOf, Cx.nox, Cx.wish]
      walk_at "go"
      refine Rd.isi (b := true) (.base (.tup h)) (kit_ty (by decide +kernel)) ?_
      walk_at "go"
      exact q
end

section
open Rd
variable {P : Program} {w : World} {K : PySem.W.Frag} {mg : Str → Option Value} {base : Heap}
theorem Yrs.app {H : Hp} {l p : Addr} {ps : List Addr} {yss : List (List Int)} {ys : List Int} (hl : H l = some (.lst (ps.map V.ref))) (h : Rows H ps (yss.map fun ys => ys.map V.int)) (hp : H p = some (.tup (ys.map V.int))) :
    (upd H l (.lst (ps.map V.ref ++ [.ref p]))) l = some (.lst ((ps ++ [p]).map V.ref)) ∧ Rows (upd H l (.lst (ps.map V.ref ++ [.ref p]))) (ps ++ [p]) ((yss ++ [ys]).map fun ys => ys.map V.int) := by
  refine ⟨by rw [upd_same, List.map_append]; rfl, ?_⟩
  rw [List.map_append]
  have hp2 : (upd H l (.lst (ps.map V.ref ++ [.ref p]))) p = some (.tup (ys.map V.int)) := by
    rw [upd_ne (ne_of hp hl (by intro z; cases z))]
    exact hp
  refine Rows.append (h.sub fun a xs ha => ?_) ⟨hp2, trivial⟩
  rw [upd_ne (ne_of ha hl (by intro z; cases z))]
  exact ha
def spCyc : Sp := fun vs H Q _ => ∃ d cc : Addr, vs = [.ref d] ∧ DrawS H d cc ∧ ∀ c y first yss H', H' c = some (.tup [.int first, .ref y]) → Yrs H' y yss → 0 < yss.length → yss.length ≤ 8 → (∀ ys ∈ yss, 0 < ys.length ∧ ys.length ≤ 14) → DrawS H' d cc → But d H H' → Q (.ref c) H'
theorem cyc_go {H : Hp} {d cc : Addr} {Q : VK} {E : XK} (S : DrawS H d cc) (q : ∀ c y first yss H', H' c = some (.tup [.int first, .ref y]) → Yrs H' y yss → 0 < yss.length → yss.length ≤ 8 → (∀ ys ∈ yss, 0 < ys.length ∧ ys.length ≤ 14) → DrawS H' d cc → But d H H' → Q (.ref c) H') : CALL spCyc [.ref d] H Q E := ⟨d, cc, rfl, S, q⟩
set_option maxHeartbeats 16000000 in
theorem ok_cyc (T : Txt K mg) : ∃ (f : Addr) (fd : FuncData), FnOk P w K mg base CX0 3 f fd ["state"] spCyc ∧ mg "_law_cycle" = some (.ref f) ∧ PySem.W.keepIn K (.ref f) = true ∧ L2.Binds K fd ["state"] [] := by
  obtain ⟨f, fd, F, g, bi⟩ := T.d__law_cycle
  obtain ⟨f__law_draw, fd__law_draw, G__law_draw, g__law_draw, kp__law_draw, b__law_draw⟩ := ok_draw (P := P) (w := w) (base := base) T
  obtain ⟨f__law_pick, fd__law_pick, G__law_pick, g__law_pick, kp__law_pick, b__law_pick⟩ := ok_pick (P := P) (w := w) (base := base) T
  refine ⟨f, fd, ?_, g, F.kp, bi⟩
  refine F.ok sc__law_cycle (fun vs H Q E h => ?_) (fun cdv A outer s H vs Q E hr h => ?_)
  · obtain ⟨d, cc, rfl, _⟩ := h; rfl
  · obtain ⟨d, cc, rfl, S, q⟩ := h
    refine ⟨_, (pss_cons (ps_set (i := 1) sc__law_cycle.nd rfl (by first | exact Or.inl rfl | exact Or.inr rfl) (pe_lst pa_nil))
      (pss_cons (ps_for PassesOwn.never rfl (pi_range1 (by rfl) T.m_range (pa_cons (pe_op op_add pe_int (pe_call G__law_draw (hr.mono (by omega)) (by rfl) g__law_draw kp__law_draw b__law_draw .nil pass0 (pa_cons (pv 0) (pa_cons (pe_call G__law_pick (hr.mono (by omega)) (by rfl) g__law_pick kp__law_pick b__law_pick .nil pass0 (pa_cons (pv 0) (pa_cons (pe_lst (pa_cons pe_int (pa_cons pe_int (pa_cons pe_int pa_nil)))) pa_nil))) pa_nil)))) pa_nil)) (pg_name (i := 2) sc__law_cycle.nd rfl (by first | exact Or.inl rfl | exact Or.inr rfl)) (pss_cons (ps_set (i := 3) sc__law_cycle.nd rfl (by first | exact Or.inl rfl | exact Or.inr rfl) (pe_call G__law_pick (hr.mono (by omega)) (by rfl) g__law_pick kp__law_pick b__law_pick .nil pass0 (pa_cons (pv 0) (pa_cons (pe_lst (pa_cons pe_int (pa_cons pe_int (pa_cons pe_int pa_nil)))) pa_nil))))
      (pss_one (ps_expr (pe_bm PySem.F.plainAttrs_list PySem.F.slot_list_append PySem.F.type_list_append mt_append (pv 1) (pa_cons (pe_callTy call_tuple_of (by rfl) T.m_tuple (by decide +kernel) (pa_cons (pe_lc (own := [("j", 4)]) (g := gName 4) (tt := tYes) (by rfl) sc__law_cycle.nd (pi_range1 (by rfl) T.m_range (pa_cons (pe_op op_add pe_int (pe_call G__law_draw (hr.mono (by omega)) (by rfl) g__law_draw kp__law_draw b__law_draw .nil pass0 (pa_cons (pv 0) (pa_cons (pv 3) pa_nil)))) pa_nil)) (blkOk_by (own := [("j", 4)]) (N := ["state", "years", "k", "most", "j"]) (sc := defScope s__law_cycle) (by decide +kernel)) (fun _ _ _ _ _ => (pg_name (i := 4) sc__law_cycle.nd rfl (Or.inl rfl))) (fun _ _ _ _ _ => pts_nil) (fun _ _ _ _ _ => (pe_op op_add pe_int (pe_call G__law_draw (hr.mono (by omega)) (by rfl) g__law_draw kp__law_draw b__law_draw .nil pass0 (pa_cons (pv 0) (pa_cons (pe_call G__law_pick (hr.mono (by omega)) (by rfl) g__law_pick kp__law_pick b__law_pick .nil pass0 (pa_cons (pv 0) (pa_cons (pe_lst (pa_cons pe_int (pa_cons pe_int (pa_cons pe_int pa_nil)))) pa_nil))) pa_nil)))))) pa_nil)) pa_nil))))))
      (pss_one (ps_ret (pe_tup (pa_cons (pe_op op_sub (pe_call G__law_draw (hr.mono (by omega)) (by rfl) g__law_draw kp__law_draw b__law_draw .nil pass0 (pa_cons (pv 0) (pa_cons pe_int pa_nil))) pe_int) (pa_cons (pe_callTy call_tuple_of (by rfl) T.m_tuple (by decide +kernel) (pa_cons (pv 1) pa_nil)) pa_nil))))))), ?_⟩
    refine Rd.start (σ' := [some (.ref d), none, none, none, none]) rfl ?_
    try dsimp only [cxOf, Cx.nox, Cx.wish]
    walk_at "go"
    refine Rd.new (by simp) fun l nl => ?_
    have ncl : cc ≠ l := S.neC nl
    walk_at "go"
    refine pickI [1, 3, 8] 1 8 (S.new nl) rfl (by decide) (by decide) (by decide) fun b0 H1 _ b00 b01 S1 B1 => ?_
    walk_at "go"
    refine draw_go S1 (by omega) (by omega) fun n H2 n0 n1 S2 B2 => ?_
    have hl0 : H2 l = some (.lst []) := B2 _ _ (S1.ne (B1 _ _ ((S.new (o := .lst []) nl).ne upd_same) upd_same)) (B1 _ _ ((S.new (o := .lst []) nl).ne upd_same) upd_same)
    walk_at "go"
    refine Rd.rngGo (by omega) (fun i σ' H' => ∃ (x1 x2 x3 : Option V) (ps : List Addr) (yss : List (List Int)), σ' = [some (.ref d), some (.ref l), x1, x2, x3] ∧ H' l = some (.lst (ps.map V.ref)) ∧ Rows H' ps (yss.map fun ys => ys.map V.int) ∧ yss.length = i ∧ (∀ ys ∈ yss, 0 < ys.length ∧ ys.length ≤ 14) ∧ DrawS H' d cc ∧ But d H H')
      ⟨none, none, none, [], [], rfl, hl0, trivial, rfl, (fun _ h => by cases h), S2, ((But.new nl).trans B1).trans B2⟩ (fun i σ' H' hi h => ?_) (fun σ' H' h => ?_) (by omega)
    · obtain ⟨x1, x2, x3, ps, yss, rfl, hl, hR, hyl, hys, S3, B3⟩ := h
      have hpl : ps.length = yss.length := by rw [hR.len, List.length_map]
      walk_at "go"
      refine pickI [1, 3, 14] 1 14 S3 rfl (by decide) (by decide) (by decide) fun m H4 _ m0 m1 S4 B4 => ?_
      have hl4 := B4 _ _ (S3.ne hl) hl
      have hR4 := hR.sub (TupSub.but S3 B4)
      walk_at "go"
      refine draw_go S4 (by omega) (by omega) fun z H5 z0 z1 S5 B5 => ?_
      have hl5 := B5 _ _ (S4.ne hl4) hl4
      have hR5 := hR4.sub (TupSub.but S4 B5)
      walk_at "go"
      refine Rd.lcr1Go (σ0 := [some (.ref d), some (.ref l), some (.int i), some (.int m), none]) rfl (by omega) (by omega) (fun D j H' => ∃ ns : List Int, H5 D = none ∧ H' D = some (.lst (ns.map V.int)) ∧ ns.length = j ∧ DrawS H' d cc ∧ But d H5 H')
        (fun D nD => ⟨[], nD, upd_same, rfl, S5.new nD, But.new nD⟩) (fun D j H' hj h => ?_) (fun D H' nD h => ?_)
      · obtain ⟨ns, nD, hD, hnl, S6, B6⟩ := h
        walk_at "go"
        refine pickI [2, 31, 60] 2 60 S6 rfl (by decide) (by decide) (by decide) fun u H7 _ u0 u1 S7 B7 => ?_
        walk_at "go"
        refine draw_go S7 (by omega) (by omega) fun y H8 y0 y1 S8 B8 => ?_
        have hD8 := B8 _ _ (S7.ne (B7 _ _ (S6.ne hD) hD)) (B7 _ _ (S6.ne hD) hD)
        walk_at "go"
        refine Rd.lcn hD8 (by rw [List.length_map]; omega) ⟨ns ++ [1 + y], nD, by rw [upd_same, List.map_append]; rfl, by rw [List.length_append, List.length_singleton, hnl], S8.putL hD8 (S5.neC nD), But.mut ((B6.trans B7).trans B8) nD⟩
      · obtain ⟨ns, _, hD, hnl, S6, B6⟩ := h
        have hl6 := B6 _ _ (S5.ne hl5) hl5
        have hR6 := hR5.sub (TupSub.but S5 B6)
        walk_at "go"
        refine Rd.tupL (SqL.of hD) fun p np => ?_
        walk_at "go"
        refine Rd.app (keep np hl6) (by rw [List.length_map]; omega) ?_
        walk_at "go"
        obtain ⟨r1, r2⟩ := Yrs.app (keep (o := .tup (ns.map V.int)) np hl6) (hR6.sub (TupSub.same (Same.put np))) upd_same
        refine ⟨_, _, _, ps ++ [p], yss ++ [ns], rfl, r1, r2, by rw [List.length_append, List.length_singleton, hyl], fun ys hy => ?_, (S6.new np).putL (keep np hl6) ncl, But.mut ((((B3.trans B4).trans B5).trans B6).trans (But.new np)) nl⟩
        rcases List.mem_append.mp hy with hy | hy
        · exact hys ys hy
        · rw [List.mem_singleton] at hy
          subst hy
          omega
    · obtain ⟨x1, x2, x3, ps, yss, rfl, hl, hR, hyl, hys, S3, B3⟩ := h
      walk_at "go"
      refine draw_go S3 (by omega) (by omega) fun z H5 z0 z1 S5 B5 => ?_
      have hl5 := B5 _ _ (S3.ne hl) hl
      have hR5 := hR.sub (TupSub.but S3 B5)
      walk_at "go"
      refine Rd.tupL (SqL.of hl5) fun p np => ?_
      walk_at "go"
      refine Rd.new (by simp) fun p2 np2 => ?_
      exact q p2 p _ yss _ upd_same ⟨ps, keep np2 upd_same, (hR5.sub (TupSub.same (Same.put np))).sub (TupSub.same (Same.put np2))⟩ (by omega) (by omega) hys ((S5.new np).new np2) (((B3.trans B5).trans (But.new np)).trans (But.new np2))
end

section
open Rd
variable {P : Program} {w : World} {K : PySem.W.Frag} {mg : Str → Option Value} {base : Heap}
def spLaw (K : PySem.W.Frag) : Sp := fun vs H Q _ => ∃ (a : Addr) (ns : List Int), vs = [.ref a] ∧ SqL K H a (ns.map V.int) ∧ ns.length ≤ 63 ∧ ∀ H', Q (.bl true) H'

theorem map_rep {α β : Type} (f : α → β) (x : α) (k : Nat) : (List.replicate k x).map f = List.replicate k (f x) := by simp
theorem rows_rep {H : Hp} {p : Addr} {r : List V} (h : H p = some (.tup r)) : ∀ k : Nat, Rows H (List.replicate k p) (List.replicate k r)
  | 0 => trivial
  | k + 1 => ⟨h, rows_rep h k⟩
theorem all_take {α : Type} (f : α → Bool) {xs : List α} {i : Nat} {x : α} (h : xs[i]? = some x) : (xs.take (i + 1)).all f = ((xs.take i).all f && f x) := by
  rw [List.take_add_one, h, List.all_append]
  simp
theorem abs_in (f : Int) : decide ((if f < 0 then -f else f) ≤ 4000000) = inB (-4000000) f 4000000 := by
  unfold inB
  by_cases h : (if f < 0 then -f else f) ≤ 4000000
  · have h1 : -4000000 ≤ f := by split at h <;> omega
    have h2 : f ≤ 4000000 := by split at h <;> omega
    rw [decide_eq_true h, decide_eq_true h1, decide_eq_true h2]; rfl
  · rw [decide_eq_false h]
    by_cases h1 : -4000000 ≤ f
    · have h2 : ¬ f ≤ 4000000 := by split at h <;> omega
      rw [decide_eq_true h1, decide_eq_false h2]; rfl
    · rw [decide_eq_false h1]; rfl
theorem DrawS.same {H H' : Hp} {d c : Addr} (S : DrawS H d c) (s : Same H H') : DrawS H' d c := by
  obtain ⟨a, l, m, cs, h1, h2, r⟩ := S
  exact ⟨a, l, m, cs, s _ _ h1, s _ _ h2, r⟩
set_option maxHeartbeats 32000000 in
theorem ok_law {f : Addr} {fd : FuncData} (T : Txt K mg) (F : Fun K "law" "law" s_law f fd) : FnOk P w K mg base CX0 5 f fd ["script"] (spLaw K) := by
  obtain ⟨f__law_start, fd__law_start, G__law_start, g__law_start, kp__law_start, b__law_start⟩ := ok_start (P := P) (w := w) (base := base) T
  obtain ⟨f__law_draw, fd__law_draw, G__law_draw, g__law_draw, kp__law_draw, b__law_draw⟩ := ok_draw (P := P) (w := w) (base := base) T
  obtain ⟨f__law_pick, fd__law_pick, G__law_pick, g__law_pick, kp__law_pick, b__law_pick⟩ := ok_pick (P := P) (w := w) (base := base) T
  obtain ⟨f__law_is, fd__law_is, G__law_is, g__law_is, kp__law_is, b__law_is⟩ := ok_is (P := P) (w := w) (base := base) T
  obtain ⟨f_is_calendar, fd_is_calendar, G_is_calendar, g_is_calendar, kp_is_calendar, b_is_calendar⟩ := ok_cal (P := P) (w := w) (base := base) T
  obtain ⟨f__law_cycle, fd__law_cycle, G__law_cycle, g__law_cycle, kp__law_cycle, b__law_cycle⟩ := ok_cyc (P := P) (w := w) (base := base) T
  refine F.ok sc_law (fun vs H Q E h => ?_) (fun cdv A outer s H vs Q E hr h => ?_)
  · obtain ⟨a, ns, rfl, _⟩ := h; rfl
  · obtain ⟨a, ns, rfl, hS, hlen, q⟩ := h
    refine ⟨_, (pss_cons (ps_set (i := 1) sc_law.nd rfl (by first | exact Or.inl rfl | exact Or.inr rfl) (pe_call G__law_start (hr.mono (by omega)) (by rfl) g__law_start kp__law_start b__law_start .nil pass0 (pa_cons (pv 0) pa_nil)))
      (pss_cons (ps_set (i := 2) sc_law.nd rfl (by first | exact Or.inl rfl | exact Or.inr rfl) (pe_call G__law_draw (hr.mono (by omega)) (by rfl) g__law_draw kp__law_draw b__law_draw .nil pass0 (pa_cons (pv 1) (pa_cons pe_int pa_nil))))
      (pss_cons (ps_if (pt_cmpR op_eq (pv 2) pe_int (nomark _)) (pss_cons (ps_set (i := 3) sc_law.nd rfl (by first | exact Or.inl rfl | exact Or.inr rfl) (pe_call G__law_pick (hr.mono (by omega)) (by rfl) g__law_pick kp__law_pick b__law_pick .nil pass0 (pa_cons (pv 1) (pa_cons (pe_lst (pa_cons pe_str (pa_cons pe_str (pa_cons pe_str (pa_cons pe_str (pa_cons pe_str (pa_cons pe_str pa_nil))))))) pa_nil))))
      (pss_one (ps_ret (pe_call G__law_is (hr.mono (by omega)) (by rfl) g__law_is kp__law_is b__law_is .nil pass0 (pa_cons (pe_call G_is_calendar (hr.mono (by omega)) (by rfl) g_is_calendar kp_is_calendar b_is_calendar .nil pass0 (pa_cons (pv 3) pa_nil)) (pa_cons (pe_cmpR op_in_seq (pv 3) (pe_lst (pa_cons pe_str (pa_cons pe_str pa_nil))) (by rfl)) pa_nil)))))) pss_nil)
      (pss_cons (ps_asg (pe_call G__law_cycle (hr.mono (by omega)) (by rfl) g__law_cycle kp__law_cycle b__law_cycle .nil pass0 (pa_cons (pv 1) pa_nil)) (pg_tup (by rfl) (pgs_cons (pg_name (i := 4) sc_law.nd rfl (by first | exact Or.inl rfl | exact Or.inr rfl)) (pgs_cons (pg_name (i := 5) sc_law.nd rfl (by first | exact Or.inl rfl | exact Or.inr rfl)) pgs_nil))))
      (pss_cons (ps_if (pt_cmpR op_eq (pv 2) pe_int (nomark _)) (pss_one (ps_set (i := 4) sc_law.nd rfl (by first | exact Or.inl rfl | exact Or.inr rfl) (pe_call G__law_pick (hr.mono (by omega)) (by rfl) g__law_pick kp__law_pick b__law_pick .nil pass0 (pa_cons (pv 1) (pa_cons (pe_lst (pa_cons (pe_un un_neg pe_int) (pa_cons pe_int (pa_cons pe_int (pa_cons (pe_un un_neg pe_int) pa_nil))))) pa_nil))))) pss_nil)
      (pss_cons (ps_if (pt_cmpR op_eq (pv 2) pe_int (nomark _)) (pss_one (ps_set (i := 5) sc_law.nd rfl (by first | exact Or.inl rfl | exact Or.inr rfl) (pe_op op_repA (pe_slice sl_tupA (pv 5) po_none (po_some pe_int)) (pe_call G__law_pick (hr.mono (by omega)) (by rfl) g__law_pick kp__law_pick b__law_pick .nil pass0 (pa_cons (pv 1) (pa_cons (pe_lst (pa_cons pe_int (pa_cons pe_int (pa_cons pe_int (pa_cons pe_int pa_nil))))) pa_nil)))))) pss_nil)
      (pss_cons (ps_if (pt_cmpR op_eq (pv 2) pe_int (nomark _)) (pss_cons (ps_set (i := 6) sc_law.nd rfl (by first | exact Or.inl rfl | exact Or.inr rfl) (pe_op op_repA (pe_slice sl_tupA (pe_ix ix_tup (pv 5) pe_int (fun _ _ => rfl)) po_none (po_some pe_int)) (pe_call G__law_pick (hr.mono (by omega)) (by rfl) g__law_pick kp__law_pick b__law_pick .nil pass0 (pa_cons (pv 1) (pa_cons (pe_lst (pa_cons pe_int (pa_cons pe_int (pa_cons pe_int pa_nil)))) pa_nil)))))
      (pss_one (ps_set (i := 5) sc_law.nd rfl (by first | exact Or.inl rfl | exact Or.inr rfl) (pe_op op_catA (pe_slice sl_tupA (pv 5) (po_some pe_int) po_none) (pe_tup (pa_cons (pv 6) pa_nil)))))) pss_nil)
      (pss_cons (ps_if (pt_cmpR op_eq (pv 2) pe_int (nomark _)) (pss_one (ps_set (i := 5) sc_law.nd rfl (by first | exact Or.inl rfl | exact Or.inr rfl) (pe_op op_catA (pv 5) (pe_tup (pa_cons (pe_tup (pa_cons pe_int (pa_cons (pe_call G__law_pick (hr.mono (by omega)) (by rfl) g__law_pick kp__law_pick b__law_pick .nil pass0 (pa_cons (pv 1) (pa_cons (pe_lst (pa_cons pe_int (pa_cons pe_int (pa_cons pe_int (pa_cons pe_int (pa_cons (pe_un un_neg pe_int) pa_nil)))))) pa_nil))) pa_nil))) pa_nil))))) pss_nil)
      (pss_cons (ps_set (i := 7) sc_law.nd rfl (by first | exact Or.inl rfl | exact Or.inr rfl) (Rd.pe_andS (pe_cmpR op_le (pe_callB call_abs (by rfl) T.m_abs (by decide +kernel) (pa_cons (pv 4) pa_nil)) pe_int (nomark _)) (pe_one (pe_chain op_le op_le pe_int (pe_callB call_len_seq (by rfl) T.m_len (by decide +kernel) (pa_cons (pv 5) pa_nil)) pe_int))))
      (pss_cons (ps_for PassesOwn.never rfl (pi_tup (pv 5)) (pg_name (i := 6) sc_law.nd rfl (by first | exact Or.inl rfl | exact Or.inr rfl)) (pss_one (ps_set (i := 7) sc_law.nd rfl (by first | exact Or.inl rfl | exact Or.inr rfl) (pe_and (pv 7) (pe_and (pe_chain op_le op_le pe_int (pe_callB call_len_seq (by rfl) T.m_len (by decide +kernel) (pa_cons (pv 6) pa_nil)) pe_int) (pe_one (pe_callB (cr_all rfl) (by rfl) T.m_all (by decide +kernel) (pa_cons (pe_lc (own := [("length", 8)]) (g := gName 8) (tt := tYes) (by rfl) sc_law.nd (pi_tup (pv 6)) (blkOk_by (own := [("length", 8)]) (N := ["script", "state", "kind", "word", "first", "years", "months", "due", "length"]) (sc := defScope s_law) (by decide +kernel)) (fun _ _ _ _ _ => (pg_name (i := 8) sc_law.nd rfl (Or.inl rfl))) (fun _ _ _ _ _ => pts_nil) (fun _ _ _ _ _ => (pe_chain op_le op_le pe_int (pv 8) pe_int))) pa_nil))))))))
      (pss_cons (ps_if (pt_not (pt_val (pe_call G__law_is (hr.mono (by omega)) (by rfl) g__law_is kp__law_is b__law_is .nil pass0 (pa_cons (pe_call G_is_calendar (hr.mono (by omega)) (by rfl) g_is_calendar kp_is_calendar b_is_calendar .nil pass0 (pa_cons (pe_tup (pa_cons (pv 4) (pa_cons (pv 5) pa_nil))) pa_nil)) (pa_cons (pv 7) pa_nil))))) (pss_one (ps_ret pe_bl)) pss_nil)
      (pss_one (ps_ret (pe_call G__law_is (hr.mono (by omega)) (by rfl) g__law_is kp__law_is b__law_is .nil pass0 (pa_cons (pe_call G_is_calendar (hr.mono (by omega)) (by rfl) g_is_calendar kp_is_calendar b_is_calendar .nil pass0 (pa_cons (pe_tup (pa_cons (pv 4) (pa_cons (pv 5) (pa_cons pe_int pa_nil)))) pa_nil)) (pa_cons pe_bl pa_nil)))))))))))))))), ?_⟩
    refine Rd.start (σ' := [some (.ref a), none, none, none, none, none, none, none, none]) rfl ?_
    try dsimp only [cxOf, Cx.nox, Cx.wish]
    walk_at "go"
    refine start_go hS hlen fun d cc H1 S1 _ _ => ?_
    walk_at "go"
    refine draw_go S1 (by omega) (by omega) fun kd H2 k0 k1 S2 B2 => ?_
    by_cases c0 : kd = 0
    · walk_at "go"
      refine pickD S2 (by simp) (by simp) fun x H3 hx S3 B3 => ?_
      have word : ∃ z : Str, x = .str z ∧ (z = "gregorian" ∨ z = "julian" ∨ z = "" ∨ z = "Gregorian" ∨ z = "julian " ∨ z = "cycle") := by
        simp only [List.mem_cons, List.not_mem_nil, or_false] at hx
        rcases hx with rfl | rfl | rfl | rfl | rfl | rfl <;> exact ⟨_, rfl, by simp⟩
      obtain ⟨z, rfl, hz⟩ := word
      walk_at "go"
      refine calS_go ?_
      walk_at "go"
      refine Rd.new (by simp) fun p np => ?_
      walk_at "go"
      refine inS upd_same rfl ?_
      walk_at "go"
      refine is_go ?_
      have e : decide (strCal z = inV (.str z) [V.str "gregorian", V.str "julian"]) = true := by
        rcases hz with rfl | rfl | rfl | rfl | rfl | rfl <;> decide +kernel
      rw [e]
      exact q _
    walk_at "go"
    refine cyc_go S2 fun c y first yss H3 hc hy hy0 hy8 hym S3 B3 => ?_
    obtain ⟨ps, hyl, hR⟩ := hy
    have hpl : ps.length = yss.length := by rw [hR.len, List.length_map]
    have hm1 : ∀ ys ∈ yss, ys.length ≤ 1000 := fun ys h => by have := hym ys h; omega
    obtain ⟨p0, pr, rfl⟩ : ∃ p0 pr, ps = p0 :: pr := by
      cases ps with
      | nil => simp at hpl; omega
      | cons x r => exact ⟨x, r, rfl⟩
    obtain ⟨ys0, yr, rfl⟩ : ∃ ys0 yr, yss = ys0 :: yr := by
      cases yss with
      | nil => simp at hy0
      | cons x r => exact ⟨x, r, rfl⟩
    have hp0 : H3 p0 = some (.tup (ys0.map V.int)) := hR.1
    have hyl' : H3 y = some (.tup (V.ref p0 :: pr.map V.ref)) := hyl
    obtain ⟨n0, nr, rfl⟩ : ∃ n0 nr, ys0 = n0 :: nr := by
      have := hym ys0 (List.mem_cons_self ..)
      cases ys0 with
      | nil => simp at this
      | cons x r => exact ⟨x, r, rfl⟩
    by_cases c1 : kd = 1
    · walk_at "go"
      refine pickI [-4000000, 4000000, 4000001, -4000001] (-4000001) 4000001 S3 rfl (by decide) (by decide) (by decide) fun f1 H4 _ _ _ S4 B4 => ?_
      have hy4 := B4 _ _ (S3.neT hyl) hyl
      have hR4 := Rows.sub (TupSub.but S3 B4) hR
      walk_at "go"
      have hplT : (p0 :: pr).length = ((n0 :: nr) :: yr).length := by rw [hR4.len, List.length_map]
      have elT : (((p0 :: pr).map V.ref).length : Int) = (((n0 :: nr) :: yr).length : Int) := by rw [List.length_map, hplT]
      refine Rd.andS (b1 := inB (-4000000) f1 4000000) (b2 := inB 1 ((n0 :: nr) :: yr).length 60) (fun Q' q' => ?_) (fun Q' q' => ?_) ?_
      · walk_at "go"
        rw [abs_in]
        exact q'
      · walk_at "go"
        unfold inB at q'
        by_cases a1 : 1 ≤ (((p0 :: pr).map V.ref).length : Int)
        · have a2 : (1 : Int) ≤ (((n0 :: nr) :: yr).length : Int) := by omega
          rw [decide_eq_true a2, Bool.true_and] at q'
          walk_at "go"
          rw [elT]
          exact q'
        · first
            | (exfalso; rw [List.length_map] at a1; simp only [List.length_cons, List.length_append, List.length_nil] at a1; omega)
            | (have a2 : ¬ (1 : Int) ≤ (((n0 :: nr) :: yr).length : Int) := by omega
               rw [decide_eq_false a2, Bool.false_and] at q'
               walk_at "go"
               exact q')
      walk_at "go"
      refine Rd.fortGo (SqT.of hy4) (fun i σ' H' => ∃ x1 x2, σ' = [some (.ref a), some (.ref d), some (.int kd), none, some (.int f1), some (.ref y), x1, some (.bl ((inB (-4000000) f1 4000000 && inB 1 ((n0 :: nr) :: yr).length 60) && (((n0 :: nr) :: yr).take i).all yearOk)), x2] ∧ Same H4 H') ⟨none, none, by simp, Same.refl _⟩ (fun i σ' H' _ h => by obtain ⟨_, _, _, sm⟩ := h; exact sm.seqT (SqT.of hy4)) (fun i x σ' H' hx h => ?_) (fun σ' H' h => ?_)
      · obtain ⟨x1, x2, rfl, sm⟩ := h
        rw [List.getElem?_map] at hx
        cases zp : (p0 :: pr)[i]? with
        | none => rw [zp] at hx; cases hx
        | some p =>
          rw [zp] at hx
          cases hx
          have hi : i < ((n0 :: nr) :: yr).length := by rw [← hplT]; exact (List.getElem?_eq_some_iff.mp zp).1
          have zy : ((n0 :: nr) :: yr)[i]? = some ((n0 :: nr) :: yr)[i] := List.getElem?_eq_getElem hi
          obtain ⟨p2, e1, e2⟩ := hR4.get (i := i) (r := ((n0 :: nr) :: yr)[i].map V.int) (by rw [List.getElem?_map, zy]; rfl)
          rw [zp] at e1
          cases e1
          have hml := hm1 _ (List.getElem_mem hi)
          generalize ((n0 :: nr) :: yr)[i] = ns at *
          have e3 := sm _ _ e2
          have tk := all_take yearOk zy
          generalize hB : (inB (-4000000) f1 4000000 && inB 1 ((n0 :: nr) :: yr).length 60) = B at *
          walk_at "go"
          cases bb : (B && (((n0 :: nr) :: yr).take i).all yearOk) with
          | false =>
            walk_at "go"
            refine ⟨some (.ref p), x2, ?_, sm⟩
            rw [tk, ← Bool.and_assoc, bb, Bool.false_and]
          | true =>
            have el : ((ns.map V.int).length : Int) = (ns.length : Int) := by rw [List.length_map]
            have tk2 : (B && (((n0 :: nr) :: yr).take (i + 1)).all yearOk) = yearOk ns := by rw [tk, ← Bool.and_assoc, bb, Bool.true_and]
            rw [tk2]
            by_cases a1 : 1 ≤ ((ns.map V.int).length : Int)
            · by_cases b1 : ((ns.map V.int).length : Int) ≤ 14
              · walk_at "go"
                refine Rd.lctMap (ys := (ns.map fun n => inB 1 n 400).map V.bl) (σ0 := [some (.ref a), some (.ref d), some (.int kd), none, some (.int f1), some (.ref y), some (.ref p), some (.bl true), none]) rfl (SqT.of e3) (by simp) (by simp; omega) (fun j x y H4 N hx hy sm4 hN => ?_) (fun D H4 nD hD sm4 => ?_)
                · rw [List.getElem?_map] at hx
                  rw [List.map_map, List.getElem?_map] at hy
                  cases z : ns[j]? with
                  | none => rw [z] at hx; cases hx
                  | some n =>
                    rw [z] at hx hy
                    cases hx
                    cases hy
                    have hN' : N (.bl (inB 1 n 400)) H4 := hN _ (Same.refl _)
                    unfold inB at hN'
                    by_cases w1 : 1 ≤ n
                    · rw [decide_eq_true w1, Bool.true_and] at hN'
                      walk_at "go"
                      exact hN'
                    · rw [decide_eq_false w1, Bool.false_and] at hN'
                      walk_at "go"
                      exact hN'
                · walk_at "go"
                  refine Rd.all1 (SqL.of hD) ?_
                  walk_at "go"
                  refine ⟨some (.ref p), x2, ?_, sm.trans sm4⟩
                  have ey : yearOk ns = ((ns.map fun n => inB 1 n 400).all id) := by
                    unfold yearOk
                    rw [map_all]
                    have : inB 1 ns.length 14 = true := by unfold inB; rw [decide_eq_true (by omega), decide_eq_true (by omega)]; rfl
                    rw [this, Bool.true_and]
                  rw [ey]
              · walk_at "go"
                refine ⟨some (.ref p), x2, ?_, sm⟩
                have ey : yearOk ns = false := by
                  unfold yearOk inB
                  rw [decide_eq_true (by omega), decide_eq_false (by omega)]
                  rfl
                rw [ey]
            · walk_at "go"
              refine ⟨some (.ref p), x2, ?_, sm⟩
              have ey : yearOk ns = false := by
                unfold yearOk inB
                rw [decide_eq_false (by omega)]
                rfl
              rw [ey]
      · obtain ⟨x1, x2, rfl, sm⟩ := h
        rw [List.length_map, hplT, List.take_length]
        walk_at "go"
        refine Rd.new (by simp) fun p9 np9 => ?_
        walk_at "go"
        have s9 := sm.trans (Same.put (o := .tup [.int f1, .ref y]) np9)
        refine calT_go upd_same ⟨(p0 :: pr), s9 _ _ hy4, hR4.sub (TupSub.same s9)⟩ (by simp at hy8 ⊢; omega) hm1 fun H10 s10 => ?_
        walk_at "go"
        refine is_go ?_
        have ec : calOk f1 ((n0 :: nr) :: yr) = (inB (-4000000) f1 4000000 && inB 1 ((n0 :: nr) :: yr).length 60 && ((n0 :: nr) :: yr).all yearOk) := rfl
        rw [ec, decide_eq_true rfl]
        walk_at "go"
        refine Rd.new (by simp) fun p10 np10 => ?_
        walk_at "go"
        refine cal3_go upd_same ?_
        walk_at "go"
        refine is_go ?_
        exact q _
    by_cases c2 : kd = 2
    · walk_at "go"
      refine slA01 hyl' fun p1 H4 s4 hp1 => ?_
      walk_at "go"
      have S4 := S3.same s4
      refine pickI [0, 1, 60, 61] 0 61 S4 rfl (by decide) (by decide) (by decide) fun k2 H5 _ k20 k21 S5 B5 => ?_
      have hp15 := B5 _ _ (S4.neT hp1) hp1
      have hp05 := TupSub.but S4 B5 _ _ (s4 _ _ hp0)
      walk_at "go"
      refine repA hp15 (by simp) k20 (by omega) (by simp) fun y2 H6 s6 hy6 => ?_
      rw [flat_rep, ← map_rep V.ref p0] at hy6
      have hR6 : Rows H6 (List.replicate k2.toNat p0) ((List.replicate k2.toNat (n0 :: nr)).map fun ys => ys.map V.int) := by
        rw [map_rep]
        exact rows_rep (s6 _ _ hp05) _
      have hm6 : ∀ ys ∈ List.replicate k2.toNat (n0 :: nr), ys.length ≤ 1000 := fun ys h => by
        rw [(List.mem_replicate.mp h).2]
        exact hm1 _ (List.mem_cons_self ..)
      walk_at "go"
      have hplT : (List.replicate k2.toNat p0).length = (List.replicate k2.toNat (n0 :: nr)).length := by rw [hR6.len, List.length_map]
      have elT : (((List.replicate k2.toNat p0).map V.ref).length : Int) = ((List.replicate k2.toNat (n0 :: nr)).length : Int) := by rw [List.length_map, hplT]
      refine Rd.andS (b1 := inB (-4000000) first 4000000) (b2 := inB 1 (List.replicate k2.toNat (n0 :: nr)).length 60) (fun Q' q' => ?_) (fun Q' q' => ?_) ?_
      · walk_at "go"
        rw [abs_in]
        exact q'
      · walk_at "go"
        unfold inB at q'
        by_cases a1 : 1 ≤ (((List.replicate k2.toNat p0).map V.ref).length : Int)
        · have a2 : (1 : Int) ≤ ((List.replicate k2.toNat (n0 :: nr)).length : Int) := by omega
          rw [decide_eq_true a2, Bool.true_and] at q'
          walk_at "go"
          rw [elT]
          exact q'
        · first
            | (exfalso; rw [List.length_map] at a1; simp only [List.length_cons, List.length_append, List.length_nil] at a1; omega)
            | (have a2 : ¬ (1 : Int) ≤ ((List.replicate k2.toNat (n0 :: nr)).length : Int) := by omega
               rw [decide_eq_false a2, Bool.false_and] at q'
               walk_at "go"
               exact q')
      walk_at "go"
      refine Rd.fortGo (SqT.of hy6) (fun i σ' H' => ∃ x1 x2, σ' = [some (.ref a), some (.ref d), some (.int kd), none, some (.int first), some (.ref y2), x1, some (.bl ((inB (-4000000) first 4000000 && inB 1 (List.replicate k2.toNat (n0 :: nr)).length 60) && ((List.replicate k2.toNat (n0 :: nr)).take i).all yearOk)), x2] ∧ Same H6 H') ⟨none, none, by simp, Same.refl _⟩ (fun i σ' H' _ h => by obtain ⟨_, _, _, sm⟩ := h; exact sm.seqT (SqT.of hy6)) (fun i x σ' H' hx h => ?_) (fun σ' H' h => ?_)
      · obtain ⟨x1, x2, rfl, sm⟩ := h
        rw [List.getElem?_map] at hx
        cases zp : (List.replicate k2.toNat p0)[i]? with
        | none => rw [zp] at hx; cases hx
        | some p =>
          rw [zp] at hx
          cases hx
          have hi : i < (List.replicate k2.toNat (n0 :: nr)).length := by rw [← hplT]; exact (List.getElem?_eq_some_iff.mp zp).1
          have zy : (List.replicate k2.toNat (n0 :: nr))[i]? = some (List.replicate k2.toNat (n0 :: nr))[i] := List.getElem?_eq_getElem hi
          obtain ⟨p2, e1, e2⟩ := hR6.get (i := i) (r := (List.replicate k2.toNat (n0 :: nr))[i].map V.int) (by rw [List.getElem?_map, zy]; rfl)
          rw [zp] at e1
          cases e1
          have hml := hm6 _ (List.getElem_mem hi)
          generalize (List.replicate k2.toNat (n0 :: nr))[i] = ns at *
          have e3 := sm _ _ e2
          have tk := all_take yearOk zy
          generalize hB : (inB (-4000000) first 4000000 && inB 1 (List.replicate k2.toNat (n0 :: nr)).length 60) = B at *
          walk_at "go"
          cases bb : (B && ((List.replicate k2.toNat (n0 :: nr)).take i).all yearOk) with
          | false =>
            walk_at "go"
            refine ⟨some (.ref p), x2, ?_, sm⟩
            rw [tk, ← Bool.and_assoc, bb, Bool.false_and]
          | true =>
            have el : ((ns.map V.int).length : Int) = (ns.length : Int) := by rw [List.length_map]
            have tk2 : (B && ((List.replicate k2.toNat (n0 :: nr)).take (i + 1)).all yearOk) = yearOk ns := by rw [tk, ← Bool.and_assoc, bb, Bool.true_and]
            rw [tk2]
            by_cases a1 : 1 ≤ ((ns.map V.int).length : Int)
            · by_cases b1 : ((ns.map V.int).length : Int) ≤ 14
              · walk_at "go"
                refine Rd.lctMap (ys := (ns.map fun n => inB 1 n 400).map V.bl) (σ0 := [some (.ref a), some (.ref d), some (.int kd), none, some (.int first), some (.ref y2), some (.ref p), some (.bl true), none]) rfl (SqT.of e3) (by simp) (by simp; omega) (fun j x y H4 N hx hy sm4 hN => ?_) (fun D H4 nD hD sm4 => ?_)
                · rw [List.getElem?_map] at hx
                  rw [List.map_map, List.getElem?_map] at hy
                  cases z : ns[j]? with
                  | none => rw [z] at hx; cases hx
                  | some n =>
                    rw [z] at hx hy
                    cases hx
                    cases hy
                    have hN' : N (.bl (inB 1 n 400)) H4 := hN _ (Same.refl _)
                    unfold inB at hN'
                    by_cases w1 : 1 ≤ n
                    · rw [decide_eq_true w1, Bool.true_and] at hN'
                      walk_at "go"
                      exact hN'
                    · rw [decide_eq_false w1, Bool.false_and] at hN'
                      walk_at "go"
                      exact hN'
                · walk_at "go"
                  refine Rd.all1 (SqL.of hD) ?_
                  walk_at "go"
                  refine ⟨some (.ref p), x2, ?_, sm.trans sm4⟩
                  have ey : yearOk ns = ((ns.map fun n => inB 1 n 400).all id) := by
                    unfold yearOk
                    rw [map_all]
                    have : inB 1 ns.length 14 = true := by unfold inB; rw [decide_eq_true (by omega), decide_eq_true (by omega)]; rfl
                    rw [this, Bool.true_and]
                  rw [ey]
              · walk_at "go"
                refine ⟨some (.ref p), x2, ?_, sm⟩
                have ey : yearOk ns = false := by
                  unfold yearOk inB
                  rw [decide_eq_true (by omega), decide_eq_false (by omega)]
                  rfl
                rw [ey]
            · walk_at "go"
              refine ⟨some (.ref p), x2, ?_, sm⟩
              have ey : yearOk ns = false := by
                unfold yearOk inB
                rw [decide_eq_false (by omega)]
                rfl
              rw [ey]
      · obtain ⟨x1, x2, rfl, sm⟩ := h
        rw [List.length_map, hplT, List.take_length]
        walk_at "go"
        refine Rd.new (by simp) fun p9 np9 => ?_
        walk_at "go"
        have s9 := sm.trans (Same.put (o := .tup [.int first, .ref y2]) np9)
        refine calT_go upd_same ⟨(List.replicate k2.toNat p0), s9 _ _ hy6, hR6.sub (TupSub.same s9)⟩ (by simp; omega) hm6 fun H10 s10 => ?_
        walk_at "go"
        refine is_go ?_
        have ec : calOk first (List.replicate k2.toNat (n0 :: nr)) = (inB (-4000000) first 4000000 && inB 1 (List.replicate k2.toNat (n0 :: nr)).length 60 && (List.replicate k2.toNat (n0 :: nr)).all yearOk) := rfl
        rw [ec, decide_eq_true rfl]
        walk_at "go"
        refine Rd.new (by simp) fun p10 np10 => ?_
        walk_at "go"
        refine cal3_go upd_same ?_
        walk_at "go"
        refine is_go ?_
        exact q _
    by_cases c3 : kd = 3
    · walk_at "go"
      have hp0' : H3 p0 = some (.tup (V.int n0 :: nr.map V.int)) := hp0
      refine slA01 hp0' fun p1 H4 s4 hp1 => ?_
      walk_at "go"
      have S4 := S3.same s4
      refine pickI [0, 14, 15] 0 15 S4 rfl (by decide) (by decide) (by decide) fun k2 H5 _ k20 k21 S5 B5 => ?_
      have hp15 := B5 _ _ (S4.neT hp1) hp1
      have sub5 : TupSub H3 H5 := fun a xs z => TupSub.but S4 B5 _ _ (s4 _ _ z)
      walk_at "go"
      refine repA hp15 (by simp) k20 (by omega) (by simp) fun pm H6 s6 hpm => ?_
      rw [flat_rep, ← map_rep V.int n0] at hpm
      have hyl6 := s6 _ _ (sub5 _ _ hyl')
      walk_at "go"
      refine slA1 hyl6 fun p7 H7 s7 hp7 => ?_
      walk_at "go"
      refine Rd.new (by simp) fun p8 np8 => ?_
      walk_at "go"
      refine catA (keep np8 hp7) upd_same (by simp at hpl hy8 ⊢; omega) fun y2 H9 s9 hy9 => ?_
      have e9 : pr.map V.ref ++ [V.ref pm] = (pr ++ [pm]).map V.ref := by rw [List.map_append]; rfl
      rw [e9] at hy9
      have sub9 : TupSub H3 H9 := fun a xs z => s9 _ _ (keep np8 (s7 _ _ (s6 _ _ (sub5 _ _ z))))
      have hR9 : Rows H9 (pr ++ [pm]) ((yr ++ [List.replicate k2.toNat n0]).map fun ys => ys.map V.int) := by
        rw [List.map_append]
        exact Rows.append (Rows.sub sub9 hR.2) ⟨s9 _ _ (keep np8 (s7 _ _ hpm)), trivial⟩
      have hm9 : ∀ ys ∈ yr ++ [List.replicate k2.toNat n0], ys.length ≤ 1000 := fun ys h => by
        rcases List.mem_append.mp h with h | h
        · exact hm1 _ (List.mem_cons_of_mem _ h)
        · rw [List.mem_singleton] at h
          subst h
          simp
          omega
      walk_at "go"
      have hplT : (pr ++ [pm]).length = (yr ++ [List.replicate k2.toNat n0]).length := by rw [hR9.len, List.length_map]
      have elT : (((pr ++ [pm]).map V.ref).length : Int) = ((yr ++ [List.replicate k2.toNat n0]).length : Int) := by rw [List.length_map, hplT]
      refine Rd.andS (b1 := inB (-4000000) first 4000000) (b2 := inB 1 (yr ++ [List.replicate k2.toNat n0]).length 60) (fun Q' q' => ?_) (fun Q' q' => ?_) ?_
      · walk_at "go"
        rw [abs_in]
        exact q'
      · walk_at "go"
        unfold inB at q'
        by_cases a1 : 1 ≤ (((pr ++ [pm]).map V.ref).length : Int)
        · have a2 : (1 : Int) ≤ ((yr ++ [List.replicate k2.toNat n0]).length : Int) := by omega
          rw [decide_eq_true a2, Bool.true_and] at q'
          walk_at "go"
          rw [elT]
          exact q'
        · first
            | (exfalso; rw [List.length_map] at a1; simp only [List.length_cons, List.length_append, List.length_nil] at a1; omega)
            | (have a2 : ¬ (1 : Int) ≤ ((yr ++ [List.replicate k2.toNat n0]).length : Int) := by omega
               rw [decide_eq_false a2, Bool.false_and] at q'
               walk_at "go"
               exact q')
      walk_at "go"
      refine Rd.fortGo (SqT.of hy9) (fun i σ' H' => ∃ x1 x2, σ' = [some (.ref a), some (.ref d), some (.int kd), none, some (.int first), some (.ref y2), x1, some (.bl ((inB (-4000000) first 4000000 && inB 1 (yr ++ [List.replicate k2.toNat n0]).length 60) && ((yr ++ [List.replicate k2.toNat n0]).take i).all yearOk)), x2] ∧ Same H9 H') ⟨some (.ref pm), none, by simp, Same.refl _⟩ (fun i σ' H' _ h => by obtain ⟨_, _, _, sm⟩ := h; exact sm.seqT (SqT.of hy9)) (fun i x σ' H' hx h => ?_) (fun σ' H' h => ?_)
      · obtain ⟨x1, x2, rfl, sm⟩ := h
        rw [List.getElem?_map] at hx
        cases zp : (pr ++ [pm])[i]? with
        | none => rw [zp] at hx; cases hx
        | some p =>
          rw [zp] at hx
          cases hx
          have hi : i < (yr ++ [List.replicate k2.toNat n0]).length := by rw [← hplT]; exact (List.getElem?_eq_some_iff.mp zp).1
          have zy : (yr ++ [List.replicate k2.toNat n0])[i]? = some (yr ++ [List.replicate k2.toNat n0])[i] := List.getElem?_eq_getElem hi
          obtain ⟨p2, e1, e2⟩ := hR9.get (i := i) (r := (yr ++ [List.replicate k2.toNat n0])[i].map V.int) (by rw [List.getElem?_map, zy]; rfl)
          rw [zp] at e1
          cases e1
          have hml := hm9 _ (List.getElem_mem hi)
          generalize (yr ++ [List.replicate k2.toNat n0])[i] = ns at *
          have e3 := sm _ _ e2
          have tk := all_take yearOk zy
          generalize hB : (inB (-4000000) first 4000000 && inB 1 (yr ++ [List.replicate k2.toNat n0]).length 60) = B at *
          walk_at "go"
          cases bb : (B && ((yr ++ [List.replicate k2.toNat n0]).take i).all yearOk) with
          | false =>
            walk_at "go"
            refine ⟨some (.ref p), x2, ?_, sm⟩
            rw [tk, ← Bool.and_assoc, bb, Bool.false_and]
          | true =>
            have el : ((ns.map V.int).length : Int) = (ns.length : Int) := by rw [List.length_map]
            have tk2 : (B && ((yr ++ [List.replicate k2.toNat n0]).take (i + 1)).all yearOk) = yearOk ns := by rw [tk, ← Bool.and_assoc, bb, Bool.true_and]
            rw [tk2]
            by_cases a1 : 1 ≤ ((ns.map V.int).length : Int)
            · by_cases b1 : ((ns.map V.int).length : Int) ≤ 14
              · walk_at "go"
                refine Rd.lctMap (ys := (ns.map fun n => inB 1 n 400).map V.bl) (σ0 := [some (.ref a), some (.ref d), some (.int kd), none, some (.int first), some (.ref y2), some (.ref p), some (.bl true), none]) rfl (SqT.of e3) (by simp) (by simp; omega) (fun j x y H4 N hx hy sm4 hN => ?_) (fun D H4 nD hD sm4 => ?_)
                · rw [List.getElem?_map] at hx
                  rw [List.map_map, List.getElem?_map] at hy
                  cases z : ns[j]? with
                  | none => rw [z] at hx; cases hx
                  | some n =>
                    rw [z] at hx hy
                    cases hx
                    cases hy
                    have hN' : N (.bl (inB 1 n 400)) H4 := hN _ (Same.refl _)
                    unfold inB at hN'
                    by_cases w1 : 1 ≤ n
                    · rw [decide_eq_true w1, Bool.true_and] at hN'
                      walk_at "go"
                      exact hN'
                    · rw [decide_eq_false w1, Bool.false_and] at hN'
                      walk_at "go"
                      exact hN'
                · walk_at "go"
                  refine Rd.all1 (SqL.of hD) ?_
                  walk_at "go"
                  refine ⟨some (.ref p), x2, ?_, sm.trans sm4⟩
                  have ey : yearOk ns = ((ns.map fun n => inB 1 n 400).all id) := by
                    unfold yearOk
                    rw [map_all]
                    have : inB 1 ns.length 14 = true := by unfold inB; rw [decide_eq_true (by omega), decide_eq_true (by omega)]; rfl
                    rw [this, Bool.true_and]
                  rw [ey]
              · walk_at "go"
                refine ⟨some (.ref p), x2, ?_, sm⟩
                have ey : yearOk ns = false := by
                  unfold yearOk inB
                  rw [decide_eq_true (by omega), decide_eq_false (by omega)]
                  rfl
                rw [ey]
            · walk_at "go"
              refine ⟨some (.ref p), x2, ?_, sm⟩
              have ey : yearOk ns = false := by
                unfold yearOk inB
                rw [decide_eq_false (by omega)]
                rfl
              rw [ey]
      · obtain ⟨x1, x2, rfl, sm⟩ := h
        rw [List.length_map, hplT, List.take_length]
        walk_at "go"
        refine Rd.new (by simp) fun p9 np9 => ?_
        walk_at "go"
        have s9 := sm.trans (Same.put (o := .tup [.int first, .ref y2]) np9)
        refine calT_go upd_same ⟨(pr ++ [pm]), s9 _ _ hy9, hR9.sub (TupSub.same s9)⟩ (by simp at hy8 ⊢; omega) hm9 fun H10 s10 => ?_
        walk_at "go"
        refine is_go ?_
        have ec : calOk first (yr ++ [List.replicate k2.toNat n0]) = (inB (-4000000) first 4000000 && inB 1 (yr ++ [List.replicate k2.toNat n0]).length 60 && (yr ++ [List.replicate k2.toNat n0]).all yearOk) := rfl
        rw [ec, decide_eq_true rfl]
        walk_at "go"
        refine Rd.new (by simp) fun p10 np10 => ?_
        walk_at "go"
        refine cal3_go upd_same ?_
        walk_at "go"
        refine is_go ?_
        exact q _
    by_cases c4 : kd = 4
    · walk_at "go"
      refine pickI [0, 1, 400, 401, -1] (-1) 401 S3 rfl (by decide) (by decide) (by decide) fun k2 H4 _ _ _ S4 B4 => ?_
      have hyl4 := B4 _ _ (S3.neT hyl) hyl
      walk_at "go"
      refine Rd.new (by simp) fun p5 np5 => ?_
      walk_at "go"
      refine Rd.new (by simp) fun p6 np6 => ?_
      walk_at "go"
      refine catA (keep np6 (keep np5 hyl4)) upd_same (by simp at hpl hy8 ⊢; omega) fun y2 H9 s9 hy9 => ?_
      have e9 : (p0 :: pr).map V.ref ++ [V.ref p5] = (p0 :: pr ++ [p5]).map V.ref := by rw [List.map_append]; rfl
      rw [e9] at hy9
      have sub9 : TupSub H3 H9 := fun a xs z => s9 _ _ (keep np6 (keep np5 (TupSub.but S3 B4 _ _ z)))
      have hR9 : Rows H9 (p0 :: pr ++ [p5]) (((n0 :: nr) :: yr ++ [[3, k2]]).map fun ys => ys.map V.int) := by
        rw [List.map_append]
        exact Rows.append (Rows.sub sub9 hR) ⟨s9 _ _ (keep np6 upd_same), trivial⟩
      have hm9 : ∀ ys ∈ (n0 :: nr) :: yr ++ [[3, k2]], ys.length ≤ 1000 := fun ys h => by
        rcases List.mem_append.mp h with h | h
        · exact hm1 _ h
        · rw [List.mem_singleton] at h
          subst h
          simp
      walk_at "go"
      have hplT : (p0 :: pr ++ [p5]).length = ((n0 :: nr) :: yr ++ [[3, k2]]).length := by rw [hR9.len, List.length_map]
      have elT : (((p0 :: pr ++ [p5]).map V.ref).length : Int) = (((n0 :: nr) :: yr ++ [[3, k2]]).length : Int) := by rw [List.length_map, hplT]
      refine Rd.andS (b1 := inB (-4000000) first 4000000) (b2 := inB 1 ((n0 :: nr) :: yr ++ [[3, k2]]).length 60) (fun Q' q' => ?_) (fun Q' q' => ?_) ?_
      · walk_at "go"
        rw [abs_in]
        exact q'
      · walk_at "go"
        unfold inB at q'
        by_cases a1 : 1 ≤ (((p0 :: pr ++ [p5]).map V.ref).length : Int)
        · have a2 : (1 : Int) ≤ (((n0 :: nr) :: yr ++ [[3, k2]]).length : Int) := by omega
          rw [decide_eq_true a2, Bool.true_and] at q'
          walk_at "go"
          rw [elT]
          exact q'
        · first
            | (exfalso; rw [List.length_map] at a1; simp only [List.length_cons, List.length_append, List.length_nil] at a1; omega)
            | (have a2 : ¬ (1 : Int) ≤ (((n0 :: nr) :: yr ++ [[3, k2]]).length : Int) := by omega
               rw [decide_eq_false a2, Bool.false_and] at q'
               walk_at "go"
               exact q')
      walk_at "go"
      refine Rd.fortGo (SqT.of hy9) (fun i σ' H' => ∃ x1 x2, σ' = [some (.ref a), some (.ref d), some (.int kd), none, some (.int first), some (.ref y2), x1, some (.bl ((inB (-4000000) first 4000000 && inB 1 ((n0 :: nr) :: yr ++ [[3, k2]]).length 60) && (((n0 :: nr) :: yr ++ [[3, k2]]).take i).all yearOk)), x2] ∧ Same H9 H') ⟨none, none, by simp, Same.refl _⟩ (fun i σ' H' _ h => by obtain ⟨_, _, _, sm⟩ := h; exact sm.seqT (SqT.of hy9)) (fun i x σ' H' hx h => ?_) (fun σ' H' h => ?_)
      · obtain ⟨x1, x2, rfl, sm⟩ := h
        rw [List.getElem?_map] at hx
        cases zp : (p0 :: pr ++ [p5])[i]? with
        | none => rw [zp] at hx; cases hx
        | some p =>
          rw [zp] at hx
          cases hx
          have hi : i < ((n0 :: nr) :: yr ++ [[3, k2]]).length := by rw [← hplT]; exact (List.getElem?_eq_some_iff.mp zp).1
          have zy : ((n0 :: nr) :: yr ++ [[3, k2]])[i]? = some ((n0 :: nr) :: yr ++ [[3, k2]])[i] := List.getElem?_eq_getElem hi
          obtain ⟨p2, e1, e2⟩ := hR9.get (i := i) (r := ((n0 :: nr) :: yr ++ [[3, k2]])[i].map V.int) (by rw [List.getElem?_map, zy]; rfl)
          rw [zp] at e1
          cases e1
          have hml := hm9 _ (List.getElem_mem hi)
          generalize ((n0 :: nr) :: yr ++ [[3, k2]])[i] = ns at *
          have e3 := sm _ _ e2
          have tk := all_take yearOk zy
          generalize hB : (inB (-4000000) first 4000000 && inB 1 ((n0 :: nr) :: yr ++ [[3, k2]]).length 60) = B at *
          walk_at "go"
          cases bb : (B && (((n0 :: nr) :: yr ++ [[3, k2]]).take i).all yearOk) with
          | false =>
            walk_at "go"
            refine ⟨some (.ref p), x2, ?_, sm⟩
            rw [tk, ← Bool.and_assoc, bb, Bool.false_and]
          | true =>
            have el : ((ns.map V.int).length : Int) = (ns.length : Int) := by rw [List.length_map]
            have tk2 : (B && (((n0 :: nr) :: yr ++ [[3, k2]]).take (i + 1)).all yearOk) = yearOk ns := by rw [tk, ← Bool.and_assoc, bb, Bool.true_and]
            rw [tk2]
            by_cases a1 : 1 ≤ ((ns.map V.int).length : Int)
            · by_cases b1 : ((ns.map V.int).length : Int) ≤ 14
              · walk_at "go"
                refine Rd.lctMap (ys := (ns.map fun n => inB 1 n 400).map V.bl) (σ0 := [some (.ref a), some (.ref d), some (.int kd), none, some (.int first), some (.ref y2), some (.ref p), some (.bl true), none]) rfl (SqT.of e3) (by simp) (by simp; omega) (fun j x y H4 N hx hy sm4 hN => ?_) (fun D H4 nD hD sm4 => ?_)
                · rw [List.getElem?_map] at hx
                  rw [List.map_map, List.getElem?_map] at hy
                  cases z : ns[j]? with
                  | none => rw [z] at hx; cases hx
                  | some n =>
                    rw [z] at hx hy
                    cases hx
                    cases hy
                    have hN' : N (.bl (inB 1 n 400)) H4 := hN _ (Same.refl _)
                    unfold inB at hN'
                    by_cases w1 : 1 ≤ n
                    · rw [decide_eq_true w1, Bool.true_and] at hN'
                      walk_at "go"
                      exact hN'
                    · rw [decide_eq_false w1, Bool.false_and] at hN'
                      walk_at "go"
                      exact hN'
                · walk_at "go"
                  refine Rd.all1 (SqL.of hD) ?_
                  walk_at "go"
                  refine ⟨some (.ref p), x2, ?_, sm.trans sm4⟩
                  have ey : yearOk ns = ((ns.map fun n => inB 1 n 400).all id) := by
                    unfold yearOk
                    rw [map_all]
                    have : inB 1 ns.length 14 = true := by unfold inB; rw [decide_eq_true (by omega), decide_eq_true (by omega)]; rfl
                    rw [this, Bool.true_and]
                  rw [ey]
              · walk_at "go"
                refine ⟨some (.ref p), x2, ?_, sm⟩
                have ey : yearOk ns = false := by
                  unfold yearOk inB
                  rw [decide_eq_true (by omega), decide_eq_false (by omega)]
                  rfl
                rw [ey]
            · walk_at "go"
              refine ⟨some (.ref p), x2, ?_, sm⟩
              have ey : yearOk ns = false := by
                unfold yearOk inB
                rw [decide_eq_false (by omega)]
                rfl
              rw [ey]
      · obtain ⟨x1, x2, rfl, sm⟩ := h
        rw [List.length_map, hplT, List.take_length]
        walk_at "go"
        refine Rd.new (by simp) fun p9 np9 => ?_
        walk_at "go"
        have s9 := sm.trans (Same.put (o := .tup [.int first, .ref y2]) np9)
        refine calT_go upd_same ⟨(p0 :: pr ++ [p5]), s9 _ _ hy9, hR9.sub (TupSub.same s9)⟩ (by simp at hy8 ⊢; omega) hm9 fun H10 s10 => ?_
        walk_at "go"
        refine is_go ?_
        have ec : calOk first ((n0 :: nr) :: yr ++ [[3, k2]]) = (inB (-4000000) first 4000000 && inB 1 ((n0 :: nr) :: yr ++ [[3, k2]]).length 60 && ((n0 :: nr) :: yr ++ [[3, k2]]).all yearOk) := rfl
        rw [ec, decide_eq_true rfl]
        walk_at "go"
        refine Rd.new (by simp) fun p10 np10 => ?_
        walk_at "go"
        refine cal3_go upd_same ?_
        walk_at "go"
        refine is_go ?_
        exact q _
    · have c5 : kd = 5 := by omega
      clear hyl'
      walk_at "go"
      have hplT : (p0 :: pr).length = ((n0 :: nr) :: yr).length := by rw [hR.len, List.length_map]
      have elT : (((p0 :: pr).map V.ref).length : Int) = (((n0 :: nr) :: yr).length : Int) := by rw [List.length_map, hplT]
      refine Rd.andS (b1 := inB (-4000000) first 4000000) (b2 := inB 1 ((n0 :: nr) :: yr).length 60) (fun Q' q' => ?_) (fun Q' q' => ?_) ?_
      · walk_at "go"
        rw [abs_in]
        exact q'
      · walk_at "go"
        unfold inB at q'
        by_cases a1 : 1 ≤ (((p0 :: pr).map V.ref).length : Int)
        · have a2 : (1 : Int) ≤ (((n0 :: nr) :: yr).length : Int) := by omega
          rw [decide_eq_true a2, Bool.true_and] at q'
          walk_at "go"
          rw [elT]
          exact q'
        · first
            | (exfalso; rw [List.length_map] at a1; simp only [List.length_cons, List.length_append, List.length_nil] at a1; omega)
            | (have a2 : ¬ (1 : Int) ≤ (((n0 :: nr) :: yr).length : Int) := by omega
               rw [decide_eq_false a2, Bool.false_and] at q'
               walk_at "go"
               exact q')
      walk_at "go"
      refine Rd.fortGo (SqT.of hyl) (fun i σ' H' => ∃ x1 x2, σ' = [some (.ref a), some (.ref d), some (.int kd), none, some (.int first), some (.ref y), x1, some (.bl ((inB (-4000000) first 4000000 && inB 1 ((n0 :: nr) :: yr).length 60) && (((n0 :: nr) :: yr).take i).all yearOk)), x2] ∧ Same H3 H') ⟨none, none, by simp, Same.refl _⟩ (fun i σ' H' _ h => by obtain ⟨_, _, _, sm⟩ := h; exact sm.seqT (SqT.of hyl)) (fun i x σ' H' hx h => ?_) (fun σ' H' h => ?_)
      · obtain ⟨x1, x2, rfl, sm⟩ := h
        rw [List.getElem?_map] at hx
        cases zp : (p0 :: pr)[i]? with
        | none => rw [zp] at hx; cases hx
        | some p =>
          rw [zp] at hx
          cases hx
          have hi : i < ((n0 :: nr) :: yr).length := by rw [← hplT]; exact (List.getElem?_eq_some_iff.mp zp).1
          have zy : ((n0 :: nr) :: yr)[i]? = some ((n0 :: nr) :: yr)[i] := List.getElem?_eq_getElem hi
          obtain ⟨p2, e1, e2⟩ := hR.get (i := i) (r := ((n0 :: nr) :: yr)[i].map V.int) (by rw [List.getElem?_map, zy]; rfl)
          rw [zp] at e1
          cases e1
          have hml := hm1 _ (List.getElem_mem hi)
          generalize ((n0 :: nr) :: yr)[i] = ns at *
          have e3 := sm _ _ e2
          have tk := all_take yearOk zy
          generalize hB : (inB (-4000000) first 4000000 && inB 1 ((n0 :: nr) :: yr).length 60) = B at *
          walk_at "go"
          cases bb : (B && (((n0 :: nr) :: yr).take i).all yearOk) with
          | false =>
            walk_at "go"
            refine ⟨some (.ref p), x2, ?_, sm⟩
            rw [tk, ← Bool.and_assoc, bb, Bool.false_and]
          | true =>
            have el : ((ns.map V.int).length : Int) = (ns.length : Int) := by rw [List.length_map]
            have tk2 : (B && (((n0 :: nr) :: yr).take (i + 1)).all yearOk) = yearOk ns := by rw [tk, ← Bool.and_assoc, bb, Bool.true_and]
            rw [tk2]
            by_cases a1 : 1 ≤ ((ns.map V.int).length : Int)
            · by_cases b1 : ((ns.map V.int).length : Int) ≤ 14
              · walk_at "go"
                refine Rd.lctMap (ys := (ns.map fun n => inB 1 n 400).map V.bl) (σ0 := [some (.ref a), some (.ref d), some (.int kd), none, some (.int first), some (.ref y), some (.ref p), some (.bl true), none]) rfl (SqT.of e3) (by simp) (by simp; omega) (fun j x y H4 N hx hy sm4 hN => ?_) (fun D H4 nD hD sm4 => ?_)
                · rw [List.getElem?_map] at hx
                  rw [List.map_map, List.getElem?_map] at hy
                  cases z : ns[j]? with
                  | none => rw [z] at hx; cases hx
                  | some n =>
                    rw [z] at hx hy
                    cases hx
                    cases hy
                    have hN' : N (.bl (inB 1 n 400)) H4 := hN _ (Same.refl _)
                    unfold inB at hN'
                    by_cases w1 : 1 ≤ n
                    · rw [decide_eq_true w1, Bool.true_and] at hN'
                      walk_at "go"
                      exact hN'
                    · rw [decide_eq_false w1, Bool.false_and] at hN'
                      walk_at "go"
                      exact hN'
                · walk_at "go"
                  refine Rd.all1 (SqL.of hD) ?_
                  walk_at "go"
                  refine ⟨some (.ref p), x2, ?_, sm.trans sm4⟩
                  have ey : yearOk ns = ((ns.map fun n => inB 1 n 400).all id) := by
                    unfold yearOk
                    rw [map_all]
                    have : inB 1 ns.length 14 = true := by unfold inB; rw [decide_eq_true (by omega), decide_eq_true (by omega)]; rfl
                    rw [this, Bool.true_and]
                  rw [ey]
              · walk_at "go"
                refine ⟨some (.ref p), x2, ?_, sm⟩
                have ey : yearOk ns = false := by
                  unfold yearOk inB
                  rw [decide_eq_true (by omega), decide_eq_false (by omega)]
                  rfl
                rw [ey]
            · walk_at "go"
              refine ⟨some (.ref p), x2, ?_, sm⟩
              have ey : yearOk ns = false := by
                unfold yearOk inB
                rw [decide_eq_false (by omega)]
                rfl
              rw [ey]
      · obtain ⟨x1, x2, rfl, sm⟩ := h
        rw [List.length_map, hplT, List.take_length]
        walk_at "go"
        refine Rd.new (by simp) fun p9 np9 => ?_
        walk_at "go"
        have s9 := sm.trans (Same.put (o := .tup [.int first, .ref y]) np9)
        refine calT_go upd_same ⟨(p0 :: pr), s9 _ _ hyl, hR.sub (TupSub.same s9)⟩ (by simp at hy8 ⊢; omega) hm1 fun H10 s10 => ?_
        walk_at "go"
        refine is_go ?_
        have ec : calOk first ((n0 :: nr) :: yr) = (inB (-4000000) first 4000000 && inB 1 ((n0 :: nr) :: yr).length 60 && ((n0 :: nr) :: yr).all yearOk) := rfl
        rw [ec, decide_eq_true rfl]
        walk_at "go"
        refine Rd.new (by simp) fun p10 np10 => ?_
        walk_at "go"
        refine cal3_go upd_same ?_
        walk_at "go"
        refine is_go ?_
        exact q _
end
theorem all_mk {l : PySem.W.OpenLaw} {w : World} {K : PySem.W.Frag} {h : Heap} {mg : Str → Option Value} {fa : Addr} (X : K.In h) (G : h.Ns mainGlobals mg) (hfa : mg "law" = some (.ref fa))
    {f0 : Addr} {od0 an0 : Option Addr} {sl0 : Array (Option Value)} {oc0 kV0 dc0 pm0 cd0 ct0 : Value} (a0 : PySem.W.nsIn K mainGlobals "within" = some (some (.ref f0))) (l0 : K.lookup f0 = some ⟨oc0, od0, .func (PySem.W.fnOf "within" "within" (defArgs s_within) (defBody s_within) (defScope s_within) .none kV0 dc0 pm0 an0 cd0 ct0), sl0⟩) (c0 : PySem.W.codeIn K cd0 "within" = true) (k0 : PySem.W.keepIn K (.ref f0) = true)
    {f1 : Addr} {od1 an1 : Option Addr} {sl1 : Array (Option Value)} {oc1 kV1 dc1 pm1 cd1 ct1 : Value} (a1 : PySem.W.nsIn K mainGlobals "is_calendar" = some (some (.ref f1))) (l1 : K.lookup f1 = some ⟨oc1, od1, .func (PySem.W.fnOf "is_calendar" "is_calendar" (defArgs s_is_calendar) (defBody s_is_calendar) (defScope s_is_calendar) .none kV1 dc1 pm1 an1 cd1 ct1), sl1⟩) (c1 : PySem.W.codeIn K cd1 "is_calendar" = true) (k1 : PySem.W.keepIn K (.ref f1) = true)
    {f2 : Addr} {od2 an2 : Option Addr} {sl2 : Array (Option Value)} {oc2 kV2 dc2 pm2 cd2 ct2 : Value} (a2 : PySem.W.nsIn K mainGlobals "_is_cycle_year" = some (some (.ref f2))) (l2 : K.lookup f2 = some ⟨oc2, od2, .func (PySem.W.fnOf "_is_cycle_year" "_is_cycle_year" (defArgs s__is_cycle_year) (defBody s__is_cycle_year) (defScope s__is_cycle_year) .none kV2 dc2 pm2 an2 cd2 ct2), sl2⟩) (c2 : PySem.W.codeIn K cd2 "_is_cycle_year" = true) (k2 : PySem.W.keepIn K (.ref f2) = true)
    {f3 : Addr} {od3 an3 : Option Addr} {sl3 : Array (Option Value)} {oc3 kV3 dc3 pm3 cd3 ct3 : Value} (a3 : PySem.W.nsIn K mainGlobals "_law_start" = some (some (.ref f3))) (l3 : K.lookup f3 = some ⟨oc3, od3, .func (PySem.W.fnOf "_law_start" "_law_start" (defArgs s__law_start) (defBody s__law_start) (defScope s__law_start) .none kV3 dc3 pm3 an3 cd3 ct3), sl3⟩) (c3 : PySem.W.codeIn K cd3 "_law_start" = true) (k3 : PySem.W.keepIn K (.ref f3) = true)
    {f4 : Addr} {od4 an4 : Option Addr} {sl4 : Array (Option Value)} {oc4 kV4 dc4 pm4 cd4 ct4 : Value} (a4 : PySem.W.nsIn K mainGlobals "_law_draw" = some (some (.ref f4))) (l4 : K.lookup f4 = some ⟨oc4, od4, .func (PySem.W.fnOf "_law_draw" "_law_draw" (defArgs s__law_draw) (defBody s__law_draw) (defScope s__law_draw) .none kV4 dc4 pm4 an4 cd4 ct4), sl4⟩) (c4 : PySem.W.codeIn K cd4 "_law_draw" = true) (k4 : PySem.W.keepIn K (.ref f4) = true)
    {f5 : Addr} {od5 an5 : Option Addr} {sl5 : Array (Option Value)} {oc5 kV5 dc5 pm5 cd5 ct5 : Value} (a5 : PySem.W.nsIn K mainGlobals "_law_pick" = some (some (.ref f5))) (l5 : K.lookup f5 = some ⟨oc5, od5, .func (PySem.W.fnOf "_law_pick" "_law_pick" (defArgs s__law_pick) (defBody s__law_pick) (defScope s__law_pick) .none kV5 dc5 pm5 an5 cd5 ct5), sl5⟩) (c5 : PySem.W.codeIn K cd5 "_law_pick" = true) (k5 : PySem.W.keepIn K (.ref f5) = true)
    {f6 : Addr} {od6 an6 : Option Addr} {sl6 : Array (Option Value)} {oc6 kV6 dc6 pm6 cd6 ct6 : Value} (a6 : PySem.W.nsIn K mainGlobals "_law_is" = some (some (.ref f6))) (l6 : K.lookup f6 = some ⟨oc6, od6, .func (PySem.W.fnOf "_law_is" "_law_is" (defArgs s__law_is) (defBody s__law_is) (defScope s__law_is) .none kV6 dc6 pm6 an6 cd6 ct6), sl6⟩) (c6 : PySem.W.codeIn K cd6 "_law_is" = true) (k6 : PySem.W.keepIn K (.ref f6) = true)
    {f7 : Addr} {od7 an7 : Option Addr} {sl7 : Array (Option Value)} {oc7 kV7 dc7 pm7 cd7 ct7 : Value} (a7 : PySem.W.nsIn K mainGlobals "_law_cycle" = some (some (.ref f7))) (l7 : K.lookup f7 = some ⟨oc7, od7, .func (PySem.W.fnOf "_law_cycle" "_law_cycle" (defArgs s__law_cycle) (defBody s__law_cycle) (defScope s__law_cycle) .none kV7 dc7 pm7 an7 cd7 ct7), sl7⟩) (c7 : PySem.W.codeIn K cd7 "_law_cycle" = true) (k7 : PySem.W.keepIn K (.ref f7) = true)
    {f8 : Addr} {od8 an8 : Option Addr} {sl8 : Array (Option Value)} {oc8 kV8 dc8 pm8 cd8 ct8 : Value} (a8 : PySem.W.nsIn K mainGlobals "law" = some (some (.ref f8))) (l8 : K.lookup f8 = some ⟨oc8, od8, .func (PySem.W.fnOf "law" "law" (defArgs s_law) (defBody s_law) (defScope s_law) .none kV8 dc8 pm8 an8 cd8 ct8), sl8⟩) (c8 : PySem.W.codeIn K cd8 "law" = true) (k8 : PySem.W.keepIn K (.ref f8) = true)
    {t0 : Tok} (cn0 : PySem.W.nsIn K mainGlobals "DAY_LIMIT" = some (some (.int 4000000 t0)))
    (z0 : PySem.W.nsIn K mainGlobals "abs" = some none)
    (z1 : PySem.W.nsIn K mainGlobals "all" = some none)
    (z2 : PySem.W.nsIn K mainGlobals "bool" = some none)
    (z3 : PySem.W.nsIn K mainGlobals "int" = some none)
    (z4 : PySem.W.nsIn K mainGlobals "isinstance" = some none)
    (z5 : PySem.W.nsIn K mainGlobals "len" = some none)
    (z6 : PySem.W.nsIn K mainGlobals "range" = some none)
    (z7 : PySem.W.nsIn K mainGlobals "tuple" = some none)
    : ∃ fd : FuncData, (∀ (s : Shared) (v : Value), BindsTo s fd ⟨[v], []⟩ [("script", v)]) ∧ ∀ base : Heap, K.In base → base.Ns mainGlobals mg → FnOk l.prog w K mg base CX0 5 fa fd ["script"] (spLaw K) := by
  have e := hfa.symm.trans (PySem.W.mg_of X G a8)
  cases e
  have F0 := fun_mk (st := s_within) l0 c0 k0
  have b0 : L2.Binds K _ ["n", "low", "high"] [] := F0.binds (ps := ["n", "low", "high"]) fun _ _ _ _ _ _ us hl => match us, hl with | [_, _, _], _ => rfl
  have F1 := fun_mk (st := s_is_calendar) l1 c1 k1
  have b1 : L2.Binds K _ ["calendar"] [] := F1.binds (ps := ["calendar"]) fun _ _ _ _ _ _ us hl => match us, hl with | [_], _ => rfl
  have F2 := fun_mk (st := s__is_cycle_year) l2 c2 k2
  have b2 : L2.Binds K _ ["lengths"] [] := F2.binds (ps := ["lengths"]) fun _ _ _ _ _ _ us hl => match us, hl with | [_], _ => rfl
  have F3 := fun_mk (st := s__law_start) l3 c3 k3
  have b3 : L2.Binds K _ ["script"] [] := F3.binds (ps := ["script"]) fun _ _ _ _ _ _ us hl => match us, hl with | [_], _ => rfl
  have F4 := fun_mk (st := s__law_draw) l4 c4 k4
  have b4 : L2.Binds K _ ["state", "bound"] [] := F4.binds (ps := ["state", "bound"]) fun _ _ _ _ _ _ us hl => match us, hl with | [_, _], _ => rfl
  have F5 := fun_mk (st := s__law_pick) l5 c5 k5
  have b5 : L2.Binds K _ ["state", "things"] [] := F5.binds (ps := ["state", "things"]) fun _ _ _ _ _ _ us hl => match us, hl with | [_, _], _ => rfl
  have F6 := fun_mk (st := s__law_is) l6 c6 k6
  have b6 : L2.Binds K _ ["actual", "due"] [] := F6.binds (ps := ["actual", "due"]) fun _ _ _ _ _ _ us hl => match us, hl with | [_, _], _ => rfl
  have F7 := fun_mk (st := s__law_cycle) l7 c7 k7
  have b7 : L2.Binds K _ ["state"] [] := F7.binds (ps := ["state"]) fun _ _ _ _ _ _ us hl => match us, hl with | [_], _ => rfl
  have F8 := fun_mk (st := s_law) l8 c8 k8
  have b8 : L2.Binds K _ ["script"] [] := F8.binds (ps := ["script"]) fun _ _ _ _ _ _ us hl => match us, hl with | [_], _ => rfl
  have T : Txt K mg := ⟨⟨_, PySem.W.mg_of X G cn0⟩, PySem.W.mg_none_of X G z0, PySem.W.mg_none_of X G z1, PySem.W.mg_none_of X G z2, PySem.W.mg_none_of X G z3, PySem.W.mg_none_of X G z4, PySem.W.mg_none_of X G z5, PySem.W.mg_none_of X G z6, PySem.W.mg_none_of X G z7, ⟨_, _, F0, PySem.W.mg_of X G a0, b0⟩, ⟨_, _, F1, PySem.W.mg_of X G a1, b1⟩, ⟨_, _, F2, PySem.W.mg_of X G a2, b2⟩, ⟨_, _, F3, PySem.W.mg_of X G a3, b3⟩, ⟨_, _, F4, PySem.W.mg_of X G a4, b4⟩, ⟨_, _, F5, PySem.W.mg_of X G a5, b5⟩, ⟨_, _, F6, PySem.W.mg_of X G a6, b6⟩, ⟨_, _, F7, PySem.W.mg_of X G a7, b7⟩, ⟨_, _, F8, PySem.W.mg_of X G a8, b8⟩⟩
  exact ⟨_, fun s v => .of_eq rfl, fun base _ _ => ok_law T F8⟩
end K21
open PySem PySem.W PyProof.Rows
set_option maxRecDepth 100000 in
set_option maxHeartbeats 0 in
theorem PySem.Challenge.cw_truealmanac_k21_which_calendars_are_righ_holds : PySem.Challenge.rw_truealmanac_k21_which_calendars_are_righ.Holds := by
  w_on; o_law; k_head; (case hw => w_witness2)
  k_fill
  refine L2.walk_of (l := PySem.Challenge.rw_truealmanac_k21_which_calendars_are_righ) (n := 63) (k := 5) (x := "script") (CX := fun _ => L2.CX0) (sp := fun w => K21.spLaw _) rfl (by decide) rfl ⟨rfl, by decide, by decide⟩ (fun w h Y => PySem.W.kIn_of Y) ?F (fun _ _ a ns hl _ hS => ⟨a, ns, rfl, hS, hl, fun _ => rfl⟩) (fun _ _ _ _ _ h => h)
  case F =>
    intro w mg fa h KX G hmg
    refine' K21.all_mk KX G hmg ?a0 ?l0 ?c0 ?k0 ?a1 ?l1 ?c1 ?k1 ?a2 ?l2 ?c2 ?k2 ?a3 ?l3 ?c3 ?k3 ?a4 ?l4 ?c4 ?k4 ?a5 ?l5 ?c5 ?k5 ?a6 ?l6 ?c6 ?k6 ?a7 ?l7 ?c7 ?k7 ?a8 ?l8 ?c8 ?k8 ?cn0 ?z0 ?z1 ?z2 ?z3 ?z4 ?z5 ?z6 ?z7
    (case a0 => k_is); (case l0 => k_is); (case c0 => k_is); (case k0 => k_is); (case a1 => k_is); (case l1 => k_is)
    (case c1 => k_is); (case k1 => k_is); (case a2 => k_is); (case l2 => k_is); (case c2 => k_is); (case k2 => k_is)
    (case a3 => k_is); (case l3 => k_is); (case c3 => k_is); (case k3 => k_is); (case a4 => k_is); (case l4 => k_is)
    (case c4 => k_is); (case k4 => k_is); (case a5 => k_is); (case l5 => k_is); (case c5 => k_is); (case k5 => k_is)
    (case a6 => k_is); (case l6 => k_is); (case c6 => k_is); (case k6 => k_is); (case a7 => k_is); (case l7 => k_is)
    (case c7 => k_is); (case k7 => k_is); (case a8 => k_is); (case l8 => k_is); (case c8 => k_is); (case k8 => k_is)
    (case cn0 => k_is); (case z0 => k_is); (case z1 => k_is); (case z2 => k_is); (case z3 => k_is); (case z4 => k_is)
    (case z5 => k_is); (case z6 => k_is); (case z7 => k_is)
