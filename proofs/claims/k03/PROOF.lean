import PyProof.Rows.All
import Wide.All
import OpenK.AllK
import Wide.FinOn
import HandS.ForMost
import HandS.Wide
import HandS.IsInst
import PySem.Challenge.RW_truealmanac_k03_values
set_option Elab.async false
set_option linter.all false
set_option maxRecDepth 100000
namespace Rd
open PySem PySem.Spec PyProof.Rows L2
/-! ### what is kept: all but the object at d -/
def But (d : Addr) (H H' : Hp) : Prop := ∀ b o, b ≠ d → H b = some o → H' b = some o
theorem But.refl {d : Addr} {H : Hp} : But d H H := fun _ _ _ h => h
theorem But.trans {d : Addr} {H H1 H2 : Hp} (a : But d H H1) (b : But d H1 H2) : But d H H2 := fun c o n h => b c o n (a c o n h)
theorem But.of {d : Addr} {H H' : Hp} (s : Same H H') : But d H H' := fun b o _ h => s b o h
theorem But.put {d : Addr} {H : Hp} {o : HO} : But d H (upd H d o) := fun b u n h => by rw [upd_ne n]; exact h
theorem But.new {d p : Addr} {H : Hp} {o : HO} (h : H p = none) : But d H (upd H p o) := fun b u _ e => by rw [upd_ne (ne_of_none e h)]; exact e
theorem But.seqL {d : Addr} {K : PySem.W.Frag} {H H' : Hp} {a : Addr} {xs : List V} (n : a ≠ d) (e : But d H H') (h : SqL K H a xs) : SqL K H' a xs := by
  rcases h with (h | ⟨o, h⟩) | h
  · exact .inl (.inl (e _ _ n h))
  · exact .inl (.inr ⟨o, e _ _ n h⟩)
  · exact .inr h
theorem But.seqT {d : Addr} {K : PySem.W.Frag} {H H' : Hp} {a : Addr} {xs : List V} (n : a ≠ d) (e : But d H H') (h : SqT K H a xs) : SqT K H' a xs := by
  rcases h with (h | ⟨o, h⟩) | h
  · exact .inl (.inl (e _ _ n h))
  · exact .inl (.inr ⟨o, e _ _ n h⟩)
  · exact .inr h
theorem _root_.L2.Same.seqT {K : PySem.W.Frag} {H H' : Hp} {a : Addr} {xs : List V} (e : Same H H') (h : SqT K H a xs) : SqT K H' a xs := by
  rcases h with (h | ⟨o, h⟩) | h
  · exact .inl (.inl (e _ _ h))
  · exact .inl (.inr ⟨o, e _ _ h⟩)
  · exact .inr h
theorem Same.put {H : Hp} {p : Addr} {o : HO} (h : H p = none) : Same H (upd H p o) := fun b u e => by rw [upd_ne (ne_of_none e h)]; exact e
theorem keep {H : Hp} {a p : Addr} {o u : HO} (np : H p = none) (h : H a = some u) : (upd H p o) a = some u := by rw [upd_ne (ne_of_none h np)]; exact h
theorem keepN {H : Hp} {a p : Addr} {o u : HO} (np : a ≠ p) (h : H a = some u) : (upd H p o) a = some u := by rw [upd_ne np]; exact h
theorem free {H : Hp} {p D : Addr} {o : HO} (h : (upd H p o) D = none) : H D = none := by
  by_cases e : D = p
  · subst e
    rw [upd_same] at h
    cases h
  · rw [upd_ne e] at h
    exact h
theorem Same.mut {H H' : Hp} {D : Addr} {o : HO} (s : Same H H') (n : H D = none) : Same H (upd H' D o) := fun b u e => by rw [upd_ne (ne_of_none e n)]; exact s _ _ e
theorem But.mut {d : Addr} {H H' : Hp} {D : Addr} {o : HO} (s : But d H H') (n : H D = none) : But d H (upd H' D o) := fun b u k e => by rw [upd_ne (ne_of_none e n)]; exact s _ _ k e
theorem set_z {α : Type} {x y : α} {xs : List α} : (x :: xs).set 0 y = y :: xs := rfl
theorem set_s {α : Type} {x y : α} {n : Nat} {xs ys : List α} (h : xs.set n y = ys) : (x :: xs).set (n + 1) y = x :: ys := by rw [← h]; rfl
/-! ### steps of a reading -/
def BLK (x : V) (H : Hp) (QB : Bool → Hp → Prop) : Prop := ∃ k, x = .bl k ∧ QB k H
def INT (xs : List V) (H : Hp) (Q : VK) : Prop := (∃ i, xs = [.int i] ∧ Q (.int i) H) ∨ ∃ k, xs = [.bl k] ∧ Q (.int (if k then 1 else 0)) H
def ABS (xs : List V) (H : Hp) (Q : VK) : Prop := ∃ i, xs = [.int i] ∧ Q (.int (if i < 0 then -i else i)) H
def MIN2 (xs : List V) (H : Hp) (Q : VK) : Prop := ∃ i j, xs = [.int i, .int j] ∧ Q (.int (if j < i then j else i)) H
def MAX2 (xs : List V) (H : Hp) (Q : VK) : Prop := ∃ i j, xs = [.int i, .int j] ∧ Q (.int (if j > i then j else i)) H
def LEN (K : PySem.W.Frag) (xs : List V) (H : Hp) (Q : VK) : Prop := ∃ p ys, xs = [.ref p] ∧ (SqL K H p ys ∨ SqT K H p ys) ∧ Q (.int ys.length) H
def NEW (mk : List V → HO) (xs : List V) (H : Hp) (Q : VK) : Prop := xs.length ≤ sizeLine ∧ ∀ p, H p = none → Q (.ref p) (upd H p (mk xs))
def DG (x y : V) (H : Hp) (Q : VK) : Prop := ∃ a v, x = .ref a ∧ DGet H a y (some v) ∧ Q v H
def DP (x y v : V) (H : Hp) (N : Hp → Prop) : Prop := ∃ a H4, x = .ref a ∧ DPut H a y v H4 ∧ N H4
def CALL (sp : Sp) (vs : List V) (H : Hp) (Q : VK) (E : XK) : Prop := sp (vs ++ []) H Q E
def SLOT (nx : L2.St → Hp → Prop) (σ : L2.St) (H : Hp) : Prop := nx σ H
section
variable {K : PySem.W.Frag} {σ σ' : L2.St} {H H' : Hp} {Q : VK} {QB : Bool → Hp → Prop} {QA : List V → Hp → Prop} {ta tb te tc : TE} {t u : TT} {tr : TA} {i j : Int} {v x y : V} {nx bk ct : L2.St → Hp → Prop} {rt : VK} {s1 s2 : TS} {b : Bool}
theorem start {t : TS} {D : Ends} {σ σ' : L2.St} (e : σ = σ') (q : t D σ' H) : t D σ H := by rw [e]; exact q
theorem var {i : Nat} (h : σ[i]? = some (some v)) (q : Q v H) : tVar i σ H Q := ⟨v, h, q⟩
theorem cst (q : Q v H) : tC v σ H Q := q
theorem op {r : R2} (q : ta σ H fun x H1 => tb σ H1 fun y H2 => r x y H2 Q) : tOp r ta tb σ H Q := q
theorem un {r : V → Hp → VK → Prop} (q : ta σ H fun x H1 => r x H1 Q) : tUn r ta σ H Q := q
theorem i0 {g : Int → Int → V} (q : Q (g i j) H) : rI0 g (.int i) (.int j) H Q := ⟨i, j, rfl, rfl, q⟩
theorem i1 {C : Int → Int → Prop} {g : Int → Int → V} (c : C i j) (q : Q (g i j) H) : rI C g (.int i) (.int j) H Q := ⟨i, j, rfl, rfl, c, q⟩
theorem u1 {g : Int → V} (q : Q (g i) H) : rU g (.int i) H Q := ⟨i, rfl, q⟩
theorem eqI (q : Q (.bl (decide (i = j))) H) : rEq (.int i) (.int j) H Q := ⟨rfl, by
  have e : decide (V.int i = V.int j) = decide (i = j) := by
    by_cases h : i = j
    · rw [decide_eq_true h, decide_eq_true (congrArg V.int h)]
    · rw [decide_eq_false h, decide_eq_false (fun z => h (V.int.inj z))]
  rw [e]; exact q⟩
theorem neI (q : Q (.bl (!decide (i = j))) H) : rNe (.int i) (.int j) H Q := ⟨rfl, by
  have e : decide (V.int i = V.int j) = decide (i = j) := by
    by_cases h : i = j
    · rw [decide_eq_true h, decide_eq_true (congrArg V.int h)]
    · rw [decide_eq_false h, decide_eq_false (fun z => h (V.int.inj z))]
  rw [e]; exact q⟩
theorem eqB {a b : Bool} (q : Q (.bl (decide (a = b))) H) : rEq (.bl a) (.bl b) H Q := ⟨rfl, by
  have e : decide (V.bl a = V.bl b) = decide (a = b) := by
    by_cases h : a = b
    · rw [decide_eq_true h, decide_eq_true (congrArg V.bl h)]
    · rw [decide_eq_false h, decide_eq_false (fun z => h (V.bl.inj z))]
  rw [e]; exact q⟩
theorem eqS {a b : Str} (q : Q (.bl (decide (a = b))) H) : rEq (.str a) (.str b) H Q := ⟨rfl, by
  have e : decide (V.str a = V.str b) = decide (a = b) := by
    by_cases h : a = b
    · rw [decide_eq_true h, decide_eq_true (congrArg V.str h)]
    · rw [decide_eq_false h, decide_eq_false (fun z => h (V.str.inj z))]
  rw [e]; exact q⟩
theorem neS {a b : Str} (q : Q (.bl (!decide (a = b))) H) : rNe (.str a) (.str b) H Q := ⟨rfl, by
  have e : decide (V.str a = V.str b) = decide (a = b) := by
    by_cases h : a = b
    · rw [decide_eq_true h, decide_eq_true (congrArg V.str h)]
    · rw [decide_eq_false h, decide_eq_false (fun z => h (V.str.inj z))]
  rw [e]; exact q⟩
theorem tst (q : te σ H fun x H' => BLK x H' QB) : tTest te σ H QB := q
theorem tB (q : te σ H fun x H' => BLK x H' QB) : L2.tB te σ H QB := q
theorem blk (q : QB b H) : BLK (V.bl b) H QB := ⟨b, rfl, q⟩
theorem tnot (q : t σ H fun c H1 => QB (!c) H1) : tNot t σ H QB := q
theorem tand (q : t σ H fun c H1 => if c = true then u σ H1 QB else QB false H1) : tAnd t u σ H QB := q
theorem tor (q : t σ H fun c H1 => if c = true then QB true H1 else u σ H1 QB) : tOr t u σ H QB := q
theorem andV (q : ta σ H fun x H1 => BLK x H1 fun c H1 => if c = true then tb σ H1 Q else Q (.bl false) H1) : tAndV ta tb σ H Q := q
theorem orV (q : ta σ H fun x H1 => BLK x H1 fun c H1 => if c = true then Q (.bl true) H1 else tb σ H1 Q) : tOrV ta tb σ H Q := q
theorem notV (q : ta σ H fun x H1 => BLK x H1 fun c H1 => Q (.bl (!c)) H1) : tNotV ta σ H Q := q
theorem ifE (q : t σ H fun c H1 => if c = true then ta σ H1 Q else tb σ H1 Q) : tIf t ta tb σ H Q := q
theorem chain {r r' : R2} (q : ta σ H fun x H1 => tb σ H1 fun y H2 => r x y H2 fun z H3 => BLK z H3 fun k H3 => if k = true then tc σ H3 fun w' H4 => r' y w' H4 Q else Q (.bl false) H3) : tChain r r' ta tb tc σ H Q := q
theorem ite {c A B : Prop} [Decidable c] (h1 : c → A) (h2 : ¬ c → B) : if decide c = true then A else B := by
  by_cases h : c
  · rw [decide_eq_true h, if_pos rfl]; exact h1 h
  · rw [decide_eq_false h, if_neg Bool.false_ne_true]; exact h2 h
theorem iteN {c A B : Prop} [Decidable c] (h1 : c → B) (h2 : ¬ c → A) : if (!decide c) = true then A else B := by
  by_cases h : c
  · rw [decide_eq_true h]; exact iteF (h1 h)
  · rw [decide_eq_false h]; exact iteT (h2 h)
theorem iteP {c A B : Prop} [Decidable c] (h : c) (q : A) : if decide c = true then A else B := by rw [decide_eq_true h]; exact iteT q
theorem iteM {c A B : Prop} [Decidable c] (h : ¬ c) (q : B) : if decide c = true then A else B := by rw [decide_eq_false h]; exact iteF q
theorem iteNP {c A B : Prop} [Decidable c] (h : c) (q : B) : if (!decide c) = true then A else B := by rw [decide_eq_true h]; exact iteF q
theorem iteNM {c A B : Prop} [Decidable c] (h : ¬ c) (q : A) : if (!decide c) = true then A else B := by rw [decide_eq_false h]; exact iteT q
theorem iteNt {A B : Prop} (q : B) : if (!true) = true then A else B := q
theorem iteNf {A B : Prop} (q : A) : if (!false) = true then A else B := iteT q
theorem anil (q : QA [] H) : tNil σ H QA := q
theorem acons (q : te σ H fun x H1 => tr σ H1 fun xs H2 => QA (x :: xs) H2) : tCons te tr σ H QA := q
theorem cb {r : List V → Hp → VK → Prop} (q : tr σ H fun vs H1 => r vs H1 Q) : tCB r tr σ H Q := q
theorem call {sp : Sp} {E : XK} (q : tr σ H fun vs H1 => CALL sp vs H1 Q E) : tCall sp [] E tr σ H Q := q
theorem cbInt (q : tr σ H fun vs H1 => INT vs H1 Q) : tCB (fun xs H Q => (∃ i, xs = [.int i] ∧ Q (.int i) H) ∨ ∃ k, xs = [.bl k] ∧ Q (.int (if k then 1 else 0)) H) tr σ H Q := q
theorem int1 (q : Q (.int i) H) : INT [V.int i] H Q := .inl ⟨i, rfl, q⟩
theorem cbAbs (q : tr σ H fun vs H1 => ABS vs H1 Q) : tCB (fun xs H Q => ∃ i, xs = [.int i] ∧ Q (.int (if i < 0 then -i else i)) H) tr σ H Q := q
theorem abs1 (q : Q (.int (if i < 0 then -i else i)) H) : ABS [V.int i] H Q := ⟨i, rfl, q⟩
theorem cbMin (q : tr σ H fun vs H1 => MIN2 vs H1 Q) : tCB (fun xs H Q => ∃ i j, xs = [.int i, .int j] ∧ Q (.int (if j < i then j else i)) H) tr σ H Q := q
theorem min2 (q : Q (.int (if j < i then j else i)) H) : MIN2 [V.int i, V.int j] H Q := ⟨i, j, rfl, q⟩
theorem cbMax (q : tr σ H fun vs H1 => MAX2 vs H1 Q) : tCB (fun xs H Q => ∃ i j, xs = [.int i, .int j] ∧ Q (.int (if j > i then j else i)) H) tr σ H Q := q
theorem max2 (q : Q (.int (if j > i then j else i)) H) : MAX2 [V.int i, V.int j] H Q := ⟨i, j, rfl, q⟩
theorem cbLen (q : tr σ H fun vs H1 => LEN K vs H1 Q) : tCB (fun xs H Q => ∃ p ys, xs = [.ref p] ∧ (SqL K H p ys ∨ SqT K H p ys) ∧ Q (.int ys.length) H) tr σ H Q := q
theorem lenL {a : Addr} {xs : List V} (h : SqL K H a xs) (q : Q (.int xs.length) H) : LEN K [V.ref a] H Q := ⟨a, xs, rfl, .inl h, q⟩
theorem lenT {a : Addr} {xs : List V} (h : SqT K H a xs) (q : Q (.int xs.length) H) : LEN K [V.ref a] H Q := ⟨a, xs, rfl, .inr h, q⟩
theorem ixL {a : Addr} {xs : List V} (h : SqL K H a xs) (e : atI xs i = some v) (q : Q v H) : rIxL K (.ref a) (.int i) H Q := ⟨a, xs, i, v, rfl, rfl, h, e, q⟩
theorem ixT {a : Addr} {xs : List V} (h : SqT K H a xs) (e : atI xs i = some v) (q : Q v H) : rIxT K (.ref a) (.int i) H Q := ⟨a, xs, i, v, rfl, rfl, h, e, q⟩
theorem lst (q : tr σ H fun xs H1 => NEW HO.lst xs H1 Q) : tLst tr σ H Q := q
theorem tup (q : tr σ H fun xs H1 => NEW HO.tup xs H1 Q) : tTup tr σ H Q := q
theorem new {mk : List V → HO} {xs : List V} (h : xs.length ≤ 1000) (q : ∀ p, H p = none → Q (.ref p) (upd H p (mk xs))) : NEW mk xs H Q := ⟨Nat.le_of_lt (small1000 h), q⟩
theorem dget {td ty : TE} (q : td σ H fun x H1 => ty σ H1 fun y H2 => DG x y H2 Q) : tDGet td ty σ H Q := q
theorem dgetS {a : Addr} {kvs : List (Key × V)} {z : Str} (h : H a = some (.dK kvs)) (hv : valV kvs (Sum.inr z : Key) = some v) (q : Q v H) : DG (.ref a) (.str z) H Q :=
  ⟨a, v, rfl, by rw [← hv]; exact DGet.k (k := Sum.inr z) h, q⟩
theorem cmulL (h : -18446744073709551616 < i) (h2 : i < 18446744073709551616) : CMul i j := .inl ⟨by omega, by omega⟩
theorem cmulR (h : -18446744073709551616 < j) (h2 : j < 18446744073709551616) : CMul i j := .inr ⟨by omega, by omega⟩
theorem cpow (h : 0 ≤ j) (h2 : j ≤ 1000000) (h3 : i.natAbs < 18446744073709551616) : CPow i j := ⟨h, h2, by omega⟩
theorem cdiv (h : 0 < j) (h2 : j < 18446744073709551616) : CDivW i j := wide_div (b := 64) h (by omega) (by decide) (by decide)
/-! statements -/
theorem seq (q : s1 ⟨s2 ⟨nx, rt, bk, ct⟩, rt, bk, ct⟩ σ H) : tSeq s1 s2 ⟨nx, rt, bk, ct⟩ σ H := q
theorem nxt (q : nx σ H) : tNext ⟨nx, rt, bk, ct⟩ σ H := q
theorem asg {i : Nat} (q : te σ H fun x H1 => SLOT nx (σ.set i (some x)) H1) : tAsg te (gName i) ⟨nx, rt, bk, ct⟩ σ H := q
theorem slot {σ' : L2.St} (e : σ = σ') (q : nx σ' H) : SLOT nx σ H := by rw [e]; exact q
theorem slot0 {z y : Option V} {r : L2.St} (q : nx (y :: r) H) : SLOT nx (List.set (z :: r) 0 y) H := q
theorem slot1 {x0 z y : Option V} {r : L2.St} (q : nx (x0 :: y :: r) H) : SLOT nx (List.set (x0 :: z :: r) 1 y) H := q
theorem slot2 {x0 x1 z y : Option V} {r : L2.St} (q : nx (x0 :: x1 :: y :: r) H) : SLOT nx (List.set (x0 :: x1 :: z :: r) 2 y) H := q
theorem slot3 {x0 x1 x2 z y : Option V} {r : L2.St} (q : nx (x0 :: x1 :: x2 :: y :: r) H) : SLOT nx (List.set (x0 :: x1 :: x2 :: z :: r) 3 y) H := q
theorem slot4 {x0 x1 x2 x3 z y : Option V} {r : L2.St} (q : nx (x0 :: x1 :: x2 :: x3 :: y :: r) H) : SLOT nx (List.set (x0 :: x1 :: x2 :: x3 :: z :: r) 4 y) H := q
theorem slot5 {x0 x1 x2 x3 x4 z y : Option V} {r : L2.St} (q : nx (x0 :: x1 :: x2 :: x3 :: x4 :: y :: r) H) : SLOT nx (List.set (x0 :: x1 :: x2 :: x3 :: x4 :: z :: r) 5 y) H := q
theorem slot6 {x0 x1 x2 x3 x4 x5 z y : Option V} {r : L2.St} (q : nx (x0 :: x1 :: x2 :: x3 :: x4 :: x5 :: y :: r) H) : SLOT nx (List.set (x0 :: x1 :: x2 :: x3 :: x4 :: x5 :: z :: r) 6 y) H := q
theorem slot7 {x0 x1 x2 x3 x4 x5 x6 z y : Option V} {r : L2.St} (q : nx (x0 :: x1 :: x2 :: x3 :: x4 :: x5 :: x6 :: y :: r) H) : SLOT nx (List.set (x0 :: x1 :: x2 :: x3 :: x4 :: x5 :: x6 :: z :: r) 7 y) H := q
theorem slot8 {x0 x1 x2 x3 x4 x5 x6 x7 z y : Option V} {r : L2.St} (q : nx (x0 :: x1 :: x2 :: x3 :: x4 :: x5 :: x6 :: x7 :: y :: r) H) : SLOT nx (List.set (x0 :: x1 :: x2 :: x3 :: x4 :: x5 :: x6 :: x7 :: z :: r) 8 y) H := q
theorem slot9 {x0 x1 x2 x3 x4 x5 x6 x7 x8 z y : Option V} {r : L2.St} (q : nx (x0 :: x1 :: x2 :: x3 :: x4 :: x5 :: x6 :: x7 :: x8 :: y :: r) H) : SLOT nx (List.set (x0 :: x1 :: x2 :: x3 :: x4 :: x5 :: x6 :: x7 :: x8 :: z :: r) 9 y) H := q
theorem slot10 {x0 x1 x2 x3 x4 x5 x6 x7 x8 x9 z y : Option V} {r : L2.St} (q : nx (x0 :: x1 :: x2 :: x3 :: x4 :: x5 :: x6 :: x7 :: x8 :: x9 :: y :: r) H) : SLOT nx (List.set (x0 :: x1 :: x2 :: x3 :: x4 :: x5 :: x6 :: x7 :: x8 :: x9 :: z :: r) 10 y) H := q
theorem slot11 {x0 x1 x2 x3 x4 x5 x6 x7 x8 x9 x10 z y : Option V} {r : L2.St} (q : nx (x0 :: x1 :: x2 :: x3 :: x4 :: x5 :: x6 :: x7 :: x8 :: x9 :: x10 :: y :: r) H) : SLOT nx (List.set (x0 :: x1 :: x2 :: x3 :: x4 :: x5 :: x6 :: x7 :: x8 :: x9 :: x10 :: z :: r) 11 y) H := q
theorem slot12 {x0 x1 x2 x3 x4 x5 x6 x7 x8 x9 x10 x11 z y : Option V} {r : L2.St} (q : nx (x0 :: x1 :: x2 :: x3 :: x4 :: x5 :: x6 :: x7 :: x8 :: x9 :: x10 :: x11 :: y :: r) H) : SLOT nx (List.set (x0 :: x1 :: x2 :: x3 :: x4 :: x5 :: x6 :: x7 :: x8 :: x9 :: x10 :: x11 :: z :: r) 12 y) H := q
theorem slot13 {x0 x1 x2 x3 x4 x5 x6 x7 x8 x9 x10 x11 x12 z y : Option V} {r : L2.St} (q : nx (x0 :: x1 :: x2 :: x3 :: x4 :: x5 :: x6 :: x7 :: x8 :: x9 :: x10 :: x11 :: x12 :: y :: r) H) : SLOT nx (List.set (x0 :: x1 :: x2 :: x3 :: x4 :: x5 :: x6 :: x7 :: x8 :: x9 :: x10 :: x11 :: x12 :: z :: r) 13 y) H := q
theorem slot14 {x0 x1 x2 x3 x4 x5 x6 x7 x8 x9 x10 x11 x12 x13 z y : Option V} {r : L2.St} (q : nx (x0 :: x1 :: x2 :: x3 :: x4 :: x5 :: x6 :: x7 :: x8 :: x9 :: x10 :: x11 :: x12 :: x13 :: y :: r) H) : SLOT nx (List.set (x0 :: x1 :: x2 :: x3 :: x4 :: x5 :: x6 :: x7 :: x8 :: x9 :: x10 :: x11 :: x12 :: x13 :: z :: r) 14 y) H := q
theorem slot15 {x0 x1 x2 x3 x4 x5 x6 x7 x8 x9 x10 x11 x12 x13 x14 z y : Option V} {r : L2.St} (q : nx (x0 :: x1 :: x2 :: x3 :: x4 :: x5 :: x6 :: x7 :: x8 :: x9 :: x10 :: x11 :: x12 :: x13 :: x14 :: y :: r) H) : SLOT nx (List.set (x0 :: x1 :: x2 :: x3 :: x4 :: x5 :: x6 :: x7 :: x8 :: x9 :: x10 :: x11 :: x12 :: x13 :: x14 :: z :: r) 15 y) H := q
theorem slot16 {x0 x1 x2 x3 x4 x5 x6 x7 x8 x9 x10 x11 x12 x13 x14 x15 z y : Option V} {r : L2.St} (q : nx (x0 :: x1 :: x2 :: x3 :: x4 :: x5 :: x6 :: x7 :: x8 :: x9 :: x10 :: x11 :: x12 :: x13 :: x14 :: x15 :: y :: r) H) : SLOT nx (List.set (x0 :: x1 :: x2 :: x3 :: x4 :: x5 :: x6 :: x7 :: x8 :: x9 :: x10 :: x11 :: x12 :: x13 :: x14 :: x15 :: z :: r) 16 y) H := q
theorem slot17 {x0 x1 x2 x3 x4 x5 x6 x7 x8 x9 x10 x11 x12 x13 x14 x15 x16 z y : Option V} {r : L2.St} (q : nx (x0 :: x1 :: x2 :: x3 :: x4 :: x5 :: x6 :: x7 :: x8 :: x9 :: x10 :: x11 :: x12 :: x13 :: x14 :: x15 :: x16 :: y :: r) H) : SLOT nx (List.set (x0 :: x1 :: x2 :: x3 :: x4 :: x5 :: x6 :: x7 :: x8 :: x9 :: x10 :: x11 :: x12 :: x13 :: x14 :: x15 :: x16 :: z :: r) 17 y) H := q
theorem slot18 {x0 x1 x2 x3 x4 x5 x6 x7 x8 x9 x10 x11 x12 x13 x14 x15 x16 x17 z y : Option V} {r : L2.St} (q : nx (x0 :: x1 :: x2 :: x3 :: x4 :: x5 :: x6 :: x7 :: x8 :: x9 :: x10 :: x11 :: x12 :: x13 :: x14 :: x15 :: x16 :: x17 :: y :: r) H) : SLOT nx (List.set (x0 :: x1 :: x2 :: x3 :: x4 :: x5 :: x6 :: x7 :: x8 :: x9 :: x10 :: x11 :: x12 :: x13 :: x14 :: x15 :: x16 :: x17 :: z :: r) 18 y) H := q
theorem slot19 {x0 x1 x2 x3 x4 x5 x6 x7 x8 x9 x10 x11 x12 x13 x14 x15 x16 x17 x18 z y : Option V} {r : L2.St} (q : nx (x0 :: x1 :: x2 :: x3 :: x4 :: x5 :: x6 :: x7 :: x8 :: x9 :: x10 :: x11 :: x12 :: x13 :: x14 :: x15 :: x16 :: x17 :: x18 :: y :: r) H) : SLOT nx (List.set (x0 :: x1 :: x2 :: x3 :: x4 :: x5 :: x6 :: x7 :: x8 :: x9 :: x10 :: x11 :: x12 :: x13 :: x14 :: x15 :: x16 :: x17 :: x18 :: z :: r) 19 y) H := q
theorem slot20 {x0 x1 x2 x3 x4 x5 x6 x7 x8 x9 x10 x11 x12 x13 x14 x15 x16 x17 x18 x19 z y : Option V} {r : L2.St} (q : nx (x0 :: x1 :: x2 :: x3 :: x4 :: x5 :: x6 :: x7 :: x8 :: x9 :: x10 :: x11 :: x12 :: x13 :: x14 :: x15 :: x16 :: x17 :: x18 :: x19 :: y :: r) H) : SLOT nx (List.set (x0 :: x1 :: x2 :: x3 :: x4 :: x5 :: x6 :: x7 :: x8 :: x9 :: x10 :: x11 :: x12 :: x13 :: x14 :: x15 :: x16 :: x17 :: x18 :: x19 :: z :: r) 20 y) H := q
theorem slot21 {x0 x1 x2 x3 x4 x5 x6 x7 x8 x9 x10 x11 x12 x13 x14 x15 x16 x17 x18 x19 x20 z y : Option V} {r : L2.St} (q : nx (x0 :: x1 :: x2 :: x3 :: x4 :: x5 :: x6 :: x7 :: x8 :: x9 :: x10 :: x11 :: x12 :: x13 :: x14 :: x15 :: x16 :: x17 :: x18 :: x19 :: x20 :: y :: r) H) : SLOT nx (List.set (x0 :: x1 :: x2 :: x3 :: x4 :: x5 :: x6 :: x7 :: x8 :: x9 :: x10 :: x11 :: x12 :: x13 :: x14 :: x15 :: x16 :: x17 :: x18 :: x19 :: x20 :: z :: r) 21 y) H := q
theorem slot22 {x0 x1 x2 x3 x4 x5 x6 x7 x8 x9 x10 x11 x12 x13 x14 x15 x16 x17 x18 x19 x20 x21 z y : Option V} {r : L2.St} (q : nx (x0 :: x1 :: x2 :: x3 :: x4 :: x5 :: x6 :: x7 :: x8 :: x9 :: x10 :: x11 :: x12 :: x13 :: x14 :: x15 :: x16 :: x17 :: x18 :: x19 :: x20 :: x21 :: y :: r) H) : SLOT nx (List.set (x0 :: x1 :: x2 :: x3 :: x4 :: x5 :: x6 :: x7 :: x8 :: x9 :: x10 :: x11 :: x12 :: x13 :: x14 :: x15 :: x16 :: x17 :: x18 :: x19 :: x20 :: x21 :: z :: r) 22 y) H := q
theorem slot23 {x0 x1 x2 x3 x4 x5 x6 x7 x8 x9 x10 x11 x12 x13 x14 x15 x16 x17 x18 x19 x20 x21 x22 z y : Option V} {r : L2.St} (q : nx (x0 :: x1 :: x2 :: x3 :: x4 :: x5 :: x6 :: x7 :: x8 :: x9 :: x10 :: x11 :: x12 :: x13 :: x14 :: x15 :: x16 :: x17 :: x18 :: x19 :: x20 :: x21 :: x22 :: y :: r) H) : SLOT nx (List.set (x0 :: x1 :: x2 :: x3 :: x4 :: x5 :: x6 :: x7 :: x8 :: x9 :: x10 :: x11 :: x12 :: x13 :: x14 :: x15 :: x16 :: x17 :: x18 :: x19 :: x20 :: x21 :: x22 :: z :: r) 23 y) H := q
theorem ret (q : te σ H rt) : tRet te ⟨nx, rt, bk, ct⟩ σ H := q
theorem retN (q : rt .non H) : tRetN ⟨nx, rt, bk, ct⟩ σ H := q
theorem ifS (q : t σ H fun b H1 => if b = true then s1 ⟨nx, rt, bk, ct⟩ σ H1 else s2 ⟨nx, rt, bk, ct⟩ σ H1) : tIfS t s1 s2 ⟨nx, rt, bk, ct⟩ σ H := q
theorem drop (q : te σ H fun _ H1 => nx σ H1) : tDrop te ⟨nx, rt, bk, ct⟩ σ H := q
theorem brk (q : bk σ H) : tBreak ⟨nx, rt, bk, ct⟩ σ H := q
theorem cnt (q : ct σ H) : tCont ⟨nx, rt, bk, ct⟩ σ H := q
theorem dput {td ty tv : TE} (q : tv σ H fun v H1 => td σ H1 fun x H2 => ty σ H2 fun y H3 => DP x y v H3 (nx σ)) : sDPut td ty tv ⟨nx, rt, bk, ct⟩ σ H := q
theorem dputS {a : Addr} {kvs kvs' : List (Key × V)} {z : Str} (h : H a = some (.dK kvs)) (hl : kvs.length ≤ 1000) (e : putK kvs (Sum.inr z : Key) v = kvs') {N : Hp → Prop} (q : N (upd H a (.dK kvs'))) : DP (V.ref a) (.str z) v H N :=
  ⟨a, _, rfl, by rw [← e]; exact DPut.k (k := Sum.inr z) h (small1000 hl), q⟩
/-! displays, comprehensions, loops -/
def DISP (p : Addr) (ps : List (V × V)) (H : Hp) (Q : VK) : Prop := H p = some (.dK []) ∧ ∃ kvs : List (Key × V), ps = kvs.map (fun kv => (kV kv.1, kv.2)) ∧ kvs.length ≤ 15 ∧ Q (.ref p) (upd H p (.dK (mergeK [] kvs)))
theorem disp {trs : List (TE × TE)} (q : ∀ p, H p = none → tPairs trs σ (upd H p (.dK [])) fun ps H2 => DISP p ps H2 Q) : tDisp trs σ H Q := q
theorem pnil {QP : List (V × V) → Hp → Prop} (q : QP [] H) : tPairs [] σ H QP := q
theorem pcons {tk tv : TE} {r : List (TE × TE)} {QP : List (V × V) → Hp → Prop} (q : tk σ H fun x H1 => tv σ H1 fun y H2 => tPairs r σ H2 fun ps H3 => QP ((x, y) :: ps) H3) : tPairs ((tk, tv) :: r) σ H QP := q
theorem dispK {p : Addr} {ps : List (V × V)} (kvs : List (Key × V)) (h : H p = some (.dK [])) (e : ps = kvs.map (fun kv => (kV kv.1, kv.2))) (hl : kvs.length ≤ 15) (q : Q (.ref p) (upd H p (.dK (mergeK [] kvs)))) : DISP p ps H Q := ⟨h, kvs, e, hl, q⟩
def LCL (K : PySem.W.Frag) (g : TG) (tt : TT) (te : TE) (vs : List Nat) (σ : L2.St) (x : V) (H : Hp) (Q : VK) : Prop := tLc (iList K (tC x)) g tt te vs σ H Q
def LCT (K : PySem.W.Frag) (g : TG) (tt : TT) (te : TE) (vs : List Nat) (σ : L2.St) (x : V) (H : Hp) (Q : VK) : Prop := tLc (iTup K (tC x)) g tt te vs σ H Q
def LCN (D : Addr) (N : Hp → Prop) (y : V) (H : Hp) : Prop := ∃ acc, H D = some (.lst acc) ∧ acc.length < sizeLine ∧ N (upd H D (.lst (acc ++ [y])))
def WIP (a b : L2.St) (N : Prop) : Prop := a = b ∧ N
theorem lcl {tl : TE} {g : TG} {vs : List Nat} (q : tl σ H fun x H1 => LCL K g t te vs σ x H1 Q) : tLc (iList K tl) g t te vs σ H Q := q
theorem lct {tl : TE} {g : TG} {vs : List Nat} (q : tl σ H fun x H1 => LCT K g t te vs σ x H1 Q) : tLc (iTup K tl) g t te vs σ H Q := q
theorem lclGo {a : Addr} {xs : List V} {g : TG} {vs : List Nat} {σ0 : L2.St} (e0 : wipe σ vs = σ0) (hS : SqL K H a xs) (Pv : Addr → Nat → Hp → Prop) (h0 : ∀ D, H D = none → Pv D 0 (upd H D (.lst []))) (hl : ∀ D i H', i ≤ xs.length → Pv D i H' → SqL K H' a xs)
    (hs : ∀ D i x H', xs[i]? = some x → Pv D i H' → g x σ0 H' fun σ2 H2 => WIP (wipe σ2 vs) σ0 (t σ2 H2 fun b H3 => if b = true then te σ2 H3 fun y H4 => LCN D (Pv D (i + 1)) y H4 else Pv D (i + 1) H3))
    (hd : ∀ D H', H D = none → Pv D xs.length H' → Q (.ref D) H') : LCL K g t te vs σ (.ref a) H Q := by
  subst e0
  exact ⟨a, rfl, ⟨xs, hS⟩, fun D nD => lc_list (Pv D) (h0 D nD) (hl D) (hs D) (fun H' => hd D H' nD)⟩
theorem lctGo {a : Addr} {xs : List V} {g : TG} {vs : List Nat} {σ0 : L2.St} (e0 : wipe σ vs = σ0) (hS : SqT K H a xs) (Pv : Addr → Nat → Hp → Prop) (h0 : ∀ D, H D = none → Pv D 0 (upd H D (.lst []))) (hl : ∀ D i H', i ≤ xs.length → Pv D i H' → SqT K H' a xs)
    (hs : ∀ D i x H', xs[i]? = some x → Pv D i H' → g x σ0 H' fun σ2 H2 => WIP (wipe σ2 vs) σ0 (t σ2 H2 fun b H3 => if b = true then te σ2 H3 fun y H4 => LCN D (Pv D (i + 1)) y H4 else Pv D (i + 1) H3))
    (hd : ∀ D H', H D = none → Pv D xs.length H' → Q (.ref D) H') : LCT K g t te vs σ (.ref a) H Q := by
  subst e0
  exact ⟨a, rfl, ⟨xs, hS⟩, fun D nD => lc_tup (Pv D) (h0 D nD) (hl D) (hs D) (fun H' => hd D H' nD)⟩
theorem lcn {D : Addr} {acc : List V} {N : Hp → Prop} (h : H D = some (.lst acc)) (hl : acc.length ≤ 1000) (q : N (upd H D (.lst (acc ++ [v])))) : LCN D N v H := ⟨acc, h, small1000 hl, q⟩
theorem wip {a b : L2.St} {N : Prop} (e : a = b) (q : N) : WIP a b N := ⟨e, q⟩
theorem gname {i : Nat} {N : L2.St → Hp → Prop} (q : SLOT N (σ.set i (some v)) H) : gName i v σ H N := q
theorem yes (q : QB true H) : tYes σ H QB := q
def FORL (K : PySem.W.Frag) (g : TG) (tb : TS) (D : Ends) (σ : L2.St) (x : V) (H : Hp) : Prop := tFor (iList K (tC x)) g tb D σ H
def FORT (K : PySem.W.Frag) (g : TG) (tb : TS) (D : Ends) (σ : L2.St) (x : V) (H : Hp) : Prop := tFor (iTup K (tC x)) g tb D σ H
def RNG1 (g : TG) (tb : TS) (D : Ends) (σ : L2.St) (vs : List V) (H : Hp) : Prop := tFor (iRng1 fun _ H Q => Q vs H) g tb D σ H
def RNG2 (g : TG) (tb : TS) (D : Ends) (σ : L2.St) (vs : List V) (H : Hp) : Prop := tFor (iRng2 fun _ H Q => Q vs H) g tb D σ H
theorem forl {tl : TE} {g : TG} {D : Ends} (q : tl σ H fun x H1 => FORL K g s1 D σ x H1) : tFor (iList K tl) g s1 D σ H := q
theorem fort {tl : TE} {g : TG} {D : Ends} (q : tl σ H fun x H1 => FORT K g s1 D σ x H1) : tFor (iTup K tl) g s1 D σ H := q
theorem forr {g : TG} {D : Ends} (q : tr σ H fun x H1 => RNG1 g s1 D σ x H1) : tFor (iRng1 tr) g s1 D σ H := q
theorem forr2 {g : TG} {D : Ends} (q : tr σ H fun x H1 => RNG2 g s1 D σ x H1) : tFor (iRng2 tr) g s1 D σ H := q
theorem forlGo {a : Addr} {xs : List V} {g : TG} (hS : SqL K H a xs) (Pv : Nat → L2.St → Hp → Prop) (h0 : Pv 0 σ H) (hl : ∀ i σ H, i ≤ xs.length → Pv i σ H → SqL K H a xs)
    (hs : ∀ i x σ H, xs[i]? = some x → Pv i σ H → g x σ H fun σ2 H2 => s1 ⟨Pv (i + 1), rt, nx, Pv (i + 1)⟩ σ2 H2) (hd : ∀ σ H, Pv xs.length σ H → nx σ H) : FORL K g s1 ⟨nx, rt, bk, ct⟩ σ (.ref a) H :=
  ⟨a, rfl, ⟨xs, hS⟩, for_list Pv h0 hl hs hd⟩
theorem fortGo {a : Addr} {xs : List V} {g : TG} (hS : SqT K H a xs) (Pv : Nat → L2.St → Hp → Prop) (h0 : Pv 0 σ H) (hl : ∀ i σ H, i ≤ xs.length → Pv i σ H → SqT K H a xs)
    (hs : ∀ i x σ H, xs[i]? = some x → Pv i σ H → g x σ H fun σ2 H2 => s1 ⟨Pv (i + 1), rt, nx, Pv (i + 1)⟩ σ2 H2) (hd : ∀ σ H, Pv xs.length σ H → nx σ H) : FORT K g s1 ⟨nx, rt, bk, ct⟩ σ (.ref a) H :=
  ⟨a, rfl, ⟨xs, hS⟩, for_tup Pv h0 hl hs hd⟩
theorem rngGo {n : Int} {g : TG} (hn : n < 4611686018427387904) (Pv : Nat → L2.St → Hp → Prop) (h0 : Pv 0 σ H)
    (hs : ∀ (i : Nat) σ H, (i : Int) < n → Pv i σ H → g (.int i) σ H fun σ2 H2 => s1 ⟨Pv (i + 1), rt, nx, Pv (i + 1)⟩ σ2 H2) (hd : ∀ σ H, Pv n.toNat σ H → nx σ H) (hn0 : -4611686018427387904 ≤ n) : RNG1 g s1 ⟨nx, rt, bk, ct⟩ σ [.int n] H :=
  ⟨n, rfl, by omega, by omega, for_range (lo := 0) (n := n.toNat) Pv h0 (fun i σ' H' hi p => by
    have e0 : (0 : Int) + (i : Int) = (i : Int) := Int.zero_add _
    rw [e0]
    exact hs i σ' H' (by omega) p) hd⟩
theorem rng2Go {lo n : Int} {g : TG} (hn : -4611686018427387904 ≤ lo ∧ lo < 4611686018427387904 ∧ -4611686018427387904 ≤ n ∧ n < 4611686018427387904) (Pv : Nat → L2.St → Hp → Prop) (h0 : Pv 0 σ H)
    (hs : ∀ (i : Nat) σ H, lo + (i : Int) < n → Pv i σ H → g (.int (lo + i)) σ H fun σ2 H2 => s1 ⟨Pv (i + 1), rt, nx, Pv (i + 1)⟩ σ2 H2) (hd : ∀ σ H, Pv (n - lo).toNat σ H → nx σ H) : RNG2 g s1 ⟨nx, rt, bk, ct⟩ σ [.int lo, .int n] H :=
  ⟨lo, n, rfl, ⟨by omega, by omega, by omega, by omega⟩, for_range (lo := lo) (n := (n - lo).toNat) Pv h0 (fun i σ' H' hi p => hs i σ' H' (by omega) p) hd⟩
theorem isi {x : V} {ty : Value} {n : String} {b : Bool} (h : TyX K H x ty) (e : PySem.W.kitOne K ty (.type n) = some b) (q : Q (.bl b) H) : rIsi K [x, .ty n] H Q := ⟨x, .ty n, ty, .type n, b, rfl, .ty n, h, e, q⟩
/-! tuples, slices, sums, comprehensions that change nothing -/
theorem at0 {α : Type} {x : α} {xs : List α} : atI (x :: xs) 0 = some x := atI_nat (j := 0) rfl
theorem at1 {α : Type} {x y : α} {xs : List α} : atI (x :: y :: xs) 1 = some y := atI_nat (j := 1) rfl
theorem at2 {α : Type} {x y z : α} {xs : List α} : atI (x :: y :: z :: xs) 2 = some z := atI_nat (j := 2) rfl
theorem at3 {α : Type} {x y z u : α} {xs : List α} : atI (x :: y :: z :: u :: xs) 3 = some u := atI_nat (j := 3) rfl
theorem at4 {α : Type} {x y z u v : α} {xs : List α} : atI (x :: y :: z :: u :: v :: xs) 4 = some v := atI_nat (j := 4) rfl
def PART (x : V) (H : Hp) (QO : Option Int → Hp → Prop) : Prop := ∃ i, x = .int i ∧ QO (some i) H
theorem sl {r : V → Option Int → Option Int → Hp → VK → Prop} {tl th : TO} (q : te σ H fun x H1 => tl σ H1 fun l H2 => th σ H2 fun u H3 => r x l u H3 Q) : tSl r te tl th σ H Q := q
theorem part {QO : Option Int → Hp → Prop} (q : te σ H fun x H1 => PART x H1 QO) : tPart te σ H QO := q
theorem part1 {QO : Option Int → Hp → Prop} (q : QO (some i) H) : PART (.int i) H QO := ⟨i, rfl, q⟩
theorem nopart {QO : Option Int → Hp → Prop} (q : QO none H) : tNoPart σ H QO := q
theorem cut1 (x : V) (xs : List V) : cutV (x :: xs) (some 1) none = xs := by
  unfold cutV
  rw [show HT.sIx (x :: xs).length 0 (some 1) = min 1 (x :: xs).length from HT.sIx_nat _ 0 1, HT.sIx_none, List.length_cons, show min 1 (xs.length + 1) = 1 by omega]
  show List.take (xs.length + 1 - 1) xs = xs
  rw [Nat.add_sub_cancel]
  exact List.take_length
theorem slT1 {a : Addr} {xs : List V} (hS : SqT K H a (x :: xs)) (q : ∀ p, H p = none → Q (.ref p) (upd H p (.tup xs))) : rSlT K (.ref a) (some 1) none H Q := by
  refine ⟨a, _, rfl, hS, ?_, ?_⟩
  · intro z
    have h1 := z.1
    rw [show HT.sIx (x :: xs).length 0 (some 1) = min 1 (x :: xs).length from HT.sIx_nat _ 0 1, List.length_cons] at h1
    omega
  · rw [cut1]
    exact q
theorem slL1 {a : Addr} {xs : List V} (hS : SqL K H a (x :: xs)) (q : ∀ p, H p = none → Q (.ref p) (upd H p (.lst xs))) : rSlL K (.ref a) (some 1) none H Q := by
  refine ⟨a, _, rfl, hS, ?_⟩
  rw [cut1]
  exact q
theorem sum1 {a : Addr} {ns : List Int} (hS : SqL K H a (ns.map V.int)) (q : Q (.int ns.sum) H) : rSum K [.ref a] H Q := ⟨a, ns, rfl, hS, q⟩
theorem any1 {a : Addr} {bs : List Bool} (hS : SqL K H a (bs.map V.bl)) (q : Q (.bl (bs.any id)) H) : rAny K [.ref a] H Q := ⟨a, bs, rfl, hS, q⟩
theorem all1 {a : Addr} {bs : List Bool} (hS : SqL K H a (bs.map V.bl)) (q : Q (.bl (bs.all id)) H) : rAll K [.ref a] H Q := ⟨a, bs, rfl, hS, q⟩
theorem catT {a c : Addr} {xs ys : List V} (ha : SqT K H a (x :: xs)) (hc : SqT K H c (y :: ys)) (hl : xs.length + ys.length ≤ 900) (q : ∀ p, H p = none → Q (.ref p) (upd H p (.tup (x :: xs ++ y :: ys)))) : rCatT K (.ref a) (.ref c) H Q :=
  ⟨a, c, _, _, rfl, rfl, ha, hc, List.cons_ne_nil _ _, Nat.le_of_lt (small1000 (by rw [List.length_cons, List.length_cons]; omega)), fun z => absurd z (List.cons_ne_nil _ _), fun _ => q⟩
def TUPO (K : PySem.W.Frag) (xs : List V) (H : Hp) (Q : VK) : Prop := ∃ p ys, xs = [.ref p] ∧ ((SqL K H p ys ∧ ∀ l, H l = none → Q (.ref l) (upd H l (.tup ys))) ∨ (SqT K H p ys ∧ Q (.ref p) H))
theorem cbTup (q : tr σ H fun vs H1 => TUPO K vs H1 Q) : tCB (fun xs H Q => ∃ p ys, xs = [.ref p] ∧ ((SqL K H p ys ∧ ∀ l, H l = none → Q (.ref l) (upd H l (.tup ys))) ∨ (SqT K H p ys ∧ Q (.ref p) H))) tr σ H Q := q
theorem tupL {a : Addr} {xs : List V} (h : SqL K H a xs) (q : ∀ l, H l = none → Q (.ref l) (upd H l (.tup xs))) : TUPO K [.ref a] H Q := ⟨a, xs, rfl, .inl ⟨h, q⟩⟩
def LSTO (K : PySem.W.Frag) (xs : List V) (H : Hp) (Q : VK) : Prop := ∃ p ys, xs = [.ref p] ∧ (SqL K H p ys ∨ SqT K H p ys) ∧ ∀ l, H l = none → Q (.ref l) (upd H l (.lst ys))
theorem cbLst (q : tr σ H fun vs H1 => LSTO K vs H1 Q) : tCB (fun xs H Q => ∃ p ys, xs = [.ref p] ∧ (SqL K H p ys ∨ SqT K H p ys) ∧ ∀ l, H l = none → Q (.ref l) (upd H l (.lst ys))) tr σ H Q := q
theorem lstT {a : Addr} {xs : List V} (h : SqT K H a xs) (q : ∀ l, H l = none → Q (.ref l) (upd H l (.lst xs))) : LSTO K [.ref a] H Q := ⟨a, xs, rfl, .inr h, q⟩
theorem lstL {a : Addr} {xs : List V} (h : SqL K H a xs) (q : ∀ l, H l = none → Q (.ref l) (upd H l (.lst xs))) : LSTO K [.ref a] H Q := ⟨a, xs, rfl, .inl h, q⟩
theorem inI_eq (k : Int) : ∀ ns : List Int, inV (.int k) (ns.map V.int) = decide (k ∈ ns)
  | [] => by simp [inV]
  | n :: r => by
    have ih := inI_eq k r
    unfold inV at ih ⊢
    rw [List.map_cons, List.any_cons, ih]
    show ((n == k) || decide (k ∈ r)) = decide (k ∈ n :: r)
    by_cases h : k = n
    · subst h
      simp
    · have h2 : ¬ n = k := fun z => h z.symm
      simp [h, h2]
theorem inI {a : Addr} {xs : List V} (ns : List Int) {k : Int} (h : SqL K H a xs) (e : xs = ns.map V.int) (q : Q (.bl (decide (k ∈ ns))) H) : rIn K false (.int k) (.ref a) H Q := by
  subst e
  refine ⟨a, _, rfl, .inl h, rfl, ?_, ?_⟩
  · rw [List.all_map]
    exact List.all_eq_true.mpr fun _ _ => rfl
  · show Q (.bl (inV (.int k) (ns.map V.int))) H
    rw [inI_eq]
    exact q
theorem lcmap {D : Addr} {ys : List V} {i : Nat} {y : V} {H0 H' : Hp} (hl : ys.length ≤ 1000) (nD : H0 D = none) (e : ys[i]? = some y) (hD : H' D = some (.lst (ys.take i))) (sm : Same H0 H') :
    LCN D (fun H2 => H2 D = some (.lst (ys.take (i + 1))) ∧ Same H0 H2) y H' := by
  refine lcn hD (by rw [List.length_take]; omega) ⟨?_, Same.mut sm nD⟩
  rw [upd_same, List.take_add_one, e]
  rfl
/-- [te for x in a tuple], which makes ys and changes nothing -/
theorem lctMap {a : Addr} {xs ys : List V} {g : TG} {vs : List Nat} {σ0 : L2.St} (e0 : wipe σ vs = σ0) (hS : SqT K H a xs) (hl : ys.length = xs.length) (h1000 : ys.length ≤ 1000)
    (hs : ∀ (i : Nat) x y H' (N : VK), xs[i]? = some x → ys[i]? = some y → Same H H' → (∀ H4, Same H' H4 → N y H4) → g x σ0 H' fun σ2 H2 => WIP (wipe σ2 vs) σ0 (te σ2 H2 N))
    (hd : ∀ D H', H D = none → H' D = some (.lst ys) → Same H H' → Q (.ref D) H') : LCT K g tYes te vs σ (.ref a) H Q := by
  refine lctGo e0 hS (fun D i H' => H D = none ∧ H' D = some (.lst (ys.take i)) ∧ Same H H') (fun D nD => ⟨nD, upd_same, Same.put nD⟩) (fun D i H' _ h => h.2.2.seqT hS) (fun D i x H' hx h => ?_) (fun D H' nD h => hd D H' nD (by rw [← hl, List.take_length] at h; exact h.2.1) h.2.2)
  obtain ⟨nD, hD, sm⟩ := h
  have hi : i < ys.length := by rw [hl]; exact (List.getElem?_eq_some_iff.mp hx).1
  refine hs i x ys[i] H' _ hx (List.getElem?_eq_getElem hi) sm fun H4 s4 => ?_
  show LCN D _ ys[i] H4
  obtain ⟨acc, a1, a2, a3⟩ := lcmap (D := D) h1000 nD (List.getElem?_eq_getElem hi) (s4 _ _ hD) (sm.trans s4)
  exact ⟨acc, a1, a2, nD, a3⟩
theorem lclMap {a : Addr} {xs ys : List V} {g : TG} {vs : List Nat} {σ0 : L2.St} (e0 : wipe σ vs = σ0) (hS : SqL K H a xs) (hl : ys.length = xs.length) (h1000 : ys.length ≤ 1000)
    (hs : ∀ (i : Nat) x y H' (N : VK), xs[i]? = some x → ys[i]? = some y → Same H H' → (∀ H4, Same H' H4 → N y H4) → g x σ0 H' fun σ2 H2 => WIP (wipe σ2 vs) σ0 (te σ2 H2 N))
    (hd : ∀ D H', H D = none → H' D = some (.lst ys) → Same H H' → Q (.ref D) H') : LCL K g tYes te vs σ (.ref a) H Q := by
  refine lclGo e0 hS (fun D i H' => H D = none ∧ H' D = some (.lst (ys.take i)) ∧ Same H H') (fun D nD => ⟨nD, upd_same, Same.put nD⟩) (fun D i H' _ h => h.2.2.seq hS) (fun D i x H' hx h => ?_) (fun D H' nD h => hd D H' nD (by rw [← hl, List.take_length] at h; exact h.2.1) h.2.2)
  obtain ⟨nD, hD, sm⟩ := h
  have hi : i < ys.length := by rw [hl]; exact (List.getElem?_eq_some_iff.mp hx).1
  refine hs i x ys[i] H' _ hx (List.getElem?_eq_getElem hi) sm fun H4 s4 => ?_
  show LCN D _ ys[i] H4
  obtain ⟨acc, a1, a2, a3⟩ := lcmap (D := D) h1000 nD (List.getElem?_eq_getElem hi) (s4 _ _ hD) (sm.trans s4)
  exact ⟨acc, a1, a2, nD, a3⟩
def LCR1 (g : TG) (tt : TT) (te : TE) (vs : List Nat) (σ : L2.St) (xs : List V) (H : Hp) (Q : VK) : Prop := tLc (iRng1 fun _ H Q => Q xs H) g tt te vs σ H Q
theorem lcr1 {g : TG} {vs : List Nat} (q : tr σ H fun xs H1 => LCR1 g t te vs σ xs H1 Q) : tLc (iRng1 tr) g t te vs σ H Q := q
theorem lcr1Go {n : Int} {g : TG} {vs : List Nat} {σ0 : L2.St} (e0 : wipe σ vs = σ0) (hn : n < 4611686018427387904) (hn0 : -4611686018427387904 ≤ n) (Pv : Addr → Nat → Hp → Prop) (h0 : ∀ D, H D = none → Pv D 0 (upd H D (.lst [])))
    (hs : ∀ D (i : Nat) H', (i : Int) < n → Pv D i H' → g (.int i) σ0 H' fun σ2 H2 => WIP (wipe σ2 vs) σ0 (t σ2 H2 fun b H3 => if b = true then te σ2 H3 fun y H4 => LCN D (Pv D (i + 1)) y H4 else Pv D (i + 1) H3))
    (hd : ∀ D H', H D = none → Pv D n.toNat H' → Q (.ref D) H') : LCR1 g t te vs σ [.int n] H Q := by
  subst e0
  exact ⟨n, rfl, by omega, by omega, fun D nD => lc_range (lo := 0) (n := n.toNat) (Pv D) (h0 D nD) (fun i H' hi p => by
    have e0 : (0 : Int) + (i : Int) = (i : Int) := Int.zero_add _
    rw [e0]
    exact hs D i H' (by omega) p) (fun H' => hd D H' nD)⟩
theorem never {P : Program} {w : World} {mg : Str → Option Value} {base : Heap} {k : Nat} {f : Addr} {fd : FuncData} {ps : List Str} : FnOk P w K mg base CX0 k f fd ps (fun _ _ _ _ => False) := ⟨fun _ _ _ _ h => h.elim, fun _ _ _ _ _ _ _ _ _ _ _ _ _ h => h.elim⟩
end
end Rd

namespace K03
open PySem PySem.Spec PyProof.Rows L2
/-! ### the draws -/
section
open Rd
abbrev stK (c : Addr) (a l m : Int) : List (Key × V) := [(.inr "cells", .ref c), (.inr "at", .int a), (.inr "left", .int l), (.inr "mix", .int m)]
def DrawS (H : Hp) (d c : Addr) : Prop := ∃ (a l m : Int) (cs : List Int), H d = some (.dK (stK c a l m)) ∧ H c = some (.lst (cs.map V.int)) ∧ 0 ≤ a ∧ 0 ≤ l ∧ 0 ≤ m ∧ m < 2147483648 ∧ ∀ x ∈ cs, 0 ≤ x
theorem DrawS.new {H : Hp} {d c p : Addr} {o : HO} (np : H p = none) (S : DrawS H d c) : DrawS (upd H p o) d c := by
  obtain ⟨a, l, m, cs, h1, h2, r⟩ := S
  exact ⟨a, l, m, cs, keep np h1, keep np h2, r⟩
theorem DrawS.ne {H : Hp} {d c a : Addr} {xs : List V} (S : DrawS H d c) (h : H a = some (.lst xs)) : a ≠ d := by
  obtain ⟨_, _, _, cs, h1, _⟩ := S
  exact ne_of h h1 (by intro z; cases z)
theorem DrawS.neT {H : Hp} {d c a : Addr} {xs : List V} (S : DrawS H d c) (h : H a = some (.tup xs)) : a ≠ d := by
  obtain ⟨_, _, _, cs, h1, _⟩ := S
  exact ne_of h h1 (by intro z; cases z)
theorem DrawS.neC {H : Hp} {d c D : Addr} (S : DrawS H d c) (n : H D = none) : c ≠ D := by
  obtain ⟨_, _, _, cs, _, h2, _⟩ := S
  exact ne_of_none h2 n
/-- a list that is not the cells grows -/
theorem DrawS.putL {H : Hp} {d c D : Addr} {xs ys : List V} (S : DrawS H d c) (h : H D = some (.lst xs)) (n : c ≠ D) : DrawS (upd H D (.lst ys)) d c := by
  have nd := S.ne h
  obtain ⟨a, l, m, cs, h1, h2, r⟩ := S
  exact ⟨a, l, m, cs, keepN nd.symm h1, keepN n h2, r⟩
theorem g_cells {c : Addr} {a l m : Int} : valV (stK c a l m) (Sum.inr "cells" : Key) = some (.ref c) := by rfl
theorem g_at {c : Addr} {a l m : Int} : valV (stK c a l m) (Sum.inr "at" : Key) = some (.int a) := by rfl
theorem g_left {c : Addr} {a l m : Int} : valV (stK c a l m) (Sum.inr "left" : Key) = some (.int l) := by rfl
theorem g_mix {c : Addr} {a l m : Int} : valV (stK c a l m) (Sum.inr "mix" : Key) = some (.int m) := by rfl
theorem p_at {c : Addr} {a l m n : Int} : putK (stK c a l m) (Sum.inr "at" : Key) (.int n) = stK c n l m := by rfl
theorem p_left {c : Addr} {a l m n : Int} : putK (stK c a l m) (Sum.inr "left" : Key) (.int n) = stK c a n m := by rfl
theorem p_mix {c : Addr} {a l m n : Int} : putK (stK c a l m) (Sum.inr "mix" : Key) (.int n) = stK c a l n := by rfl
theorem p_start {c : Addr} {m : Int} : mergeK [] [((.inr "cells" : Key), V.ref c), (.inr "at", .int 0), (.inr "left", .int 0), (.inr "mix", .int m)] = stK c 0 0 m := by rfl
end

/-! the reader: steps that need no word -/
local macro_rules | `(tactic| walk_at "hp") => `(tactic| first
  | with_reducible assumption
  | exact upd_same
  | (((with_reducible apply Rd.keep); (with_reducible assumption)); walk_at "hp"))
local macro_rules | `(tactic| walk_at "slot") => `(tactic| first | with_reducible apply Rd.slot0 | with_reducible apply Rd.slot1 | with_reducible apply Rd.slot2 | with_reducible apply Rd.slot3 | with_reducible apply Rd.slot4 | with_reducible apply Rd.slot5 | with_reducible apply Rd.slot6 | with_reducible apply Rd.slot7 | with_reducible apply Rd.slot8 | with_reducible apply Rd.slot9 | with_reducible apply Rd.slot10 | with_reducible apply Rd.slot11 | with_reducible apply Rd.slot12 | with_reducible apply Rd.slot13 | with_reducible apply Rd.slot14 | with_reducible apply Rd.slot15 | with_reducible apply Rd.slot16 | with_reducible apply Rd.slot17 | with_reducible apply Rd.slot18 | with_reducible apply Rd.slot19 | with_reducible apply Rd.slot20 | with_reducible apply Rd.slot21 | with_reducible apply Rd.slot22 | with_reducible apply Rd.slot23)
local macro_rules | `(tactic| walk_at "dg") => `(tactic| first | exact g_left | exact g_at | exact g_cells | exact g_mix)
local macro_rules | `(tactic| walk_at "dp") => `(tactic| first | exact p_left | exact p_at | exact p_mix)
local macro_rules | `(tactic| walk_at "le") => `(tactic| first | decide | (simp only [List.length_map, List.length_append]; omega) | omega)
local macro_rules | `(tactic| walk_at "side") => `(tactic| first
  | with_reducible assumption
  | exact Rd.cmulL (by omega) (by omega)
  | exact Rd.cmulR (by omega) (by omega)
  | exact Rd.cpow (by decide) (by decide) (by decide)
  | exact Rd.cdiv (by omega) (by omega)
  | omega)
local macro_rules | `(tactic| walk_at "sq") => `(tactic| first
  | with_reducible assumption
  | exact SqL.of (by walk_at "hp")
  | exact SqT.of (by walk_at "hp"))
local macro_rules | `(tactic| walk_at "at") => `(tactic| first | with_reducible assumption | exact Rd.at0 | exact Rd.at1 | exact Rd.at2 | exact Rd.at3 | exact Rd.at4)
local macro_rules | `(tactic| walk_at "rd") => `(tactic| repeat (first
  | ((with_reducible apply Rd.var); exact rfl)
  | with_reducible apply Rd.cst
  | with_reducible apply Rd.op
  | with_reducible apply Rd.un
  | with_reducible apply Rd.i0
  | with_reducible apply Rd.u1
  | with_reducible apply Rd.eqI
  | with_reducible apply Rd.neI
  | with_reducible apply Rd.eqB
  | with_reducible apply Rd.eqS
  | with_reducible apply Rd.neS
  | with_reducible apply Rd.tst
  | with_reducible apply Rd.tB
  | with_reducible apply Rd.blk
  | with_reducible apply iteF
  | with_reducible apply iteT
  | with_reducible apply Rd.iteNt
  | with_reducible apply Rd.iteNf
  | with_reducible apply Rd.tnot
  | with_reducible apply Rd.tand
  | with_reducible apply Rd.tor
  | with_reducible apply Rd.andV
  | with_reducible apply Rd.orV
  | with_reducible apply Rd.notV
  | with_reducible apply Rd.ifE
  | with_reducible apply Rd.chain
  | with_reducible apply Rd.anil
  | with_reducible apply Rd.acons
  | with_reducible apply Rd.cbInt
  | with_reducible apply Rd.cbAbs
  | with_reducible apply Rd.cbMin
  | with_reducible apply Rd.cbMax
  | with_reducible apply Rd.cbLen
  | ((with_reducible apply Rd.lenL); (walk_at "sq"))
  | ((with_reducible apply Rd.lenT); (walk_at "sq"))
  | with_reducible apply Rd.min2
  | with_reducible apply Rd.max2
  | with_reducible apply Rd.cbTup
  | with_reducible apply Rd.cbLst
  | with_reducible apply Rd.cb
  | ((with_reducible apply Rd.ixL); (walk_at "sq"); (walk_at "at"))
  | ((with_reducible apply Rd.ixT); (walk_at "sq"); (walk_at "at"))
  | with_reducible apply Rd.call
  | with_reducible apply Rd.int1
  | with_reducible apply Rd.abs1
  | with_reducible apply Rd.lst
  | with_reducible apply Rd.tup
  | with_reducible apply Rd.dget
  | with_reducible apply Rd.dput
  | ((with_reducible apply Rd.dgetS); (walk_at "hp"); (walk_at "dg"))
  | ((with_reducible apply Rd.dputS); (walk_at "hp"); (walk_at "le"); (walk_at "dp"))
  | ((with_reducible apply Rd.i1); (walk_at "side"))
  | with_reducible apply Rd.seq
  | with_reducible apply Rd.nxt
  | with_reducible apply Rd.asg
  | walk_at "slot"
  | with_reducible apply Rd.ret
  | with_reducible apply Rd.retN
  | with_reducible apply Rd.ifS
  | with_reducible apply Rd.drop
  | with_reducible apply Rd.brk
  | with_reducible apply Rd.cnt
  | with_reducible apply Rd.pcons
  | with_reducible apply Rd.pnil
  | with_reducible apply Rd.lcl
  | with_reducible apply Rd.lct
  | with_reducible apply Rd.gname
  | with_reducible apply Rd.yes
  | ((with_reducible apply Rd.wip); (exact rfl))
  | with_reducible apply Rd.forl
  | with_reducible apply Rd.fort
  | with_reducible apply Rd.forr
  | with_reducible apply Rd.forr2
  | with_reducible apply Rd.sl
  | with_reducible apply Rd.part
  | with_reducible apply Rd.part1
  | with_reducible apply Rd.nopart
  | with_reducible apply Rd.lcr1))
local macro_rules | `(tactic| walk_at "dec") => `(tactic| first
  | ((with_reducible apply Rd.iteP); (first | with_reducible assumption | exact rfl | decide | omega))
  | ((with_reducible apply Rd.iteM); (first | with_reducible assumption | exact rfl | decide | omega))
  | ((with_reducible apply Rd.iteNP); (first | with_reducible assumption | exact rfl | decide | omega))
  | ((with_reducible apply Rd.iteNM); (first | with_reducible assumption | exact rfl | decide | omega)))
local macro_rules | `(tactic| walk_at "go") => `(tactic| (walk_at "rd"; (repeat (walk_at "dec"; walk_at "rd"))))
def topS (i : Nat) : Stmt := PySem.Challenge.pw_truealmanac_k03_values.main.body.getD i (.Pass ⟨0, 0, 0, 0⟩)
abbrev s_arch : Stmt := topS 6
abbrev s_wave : Stmt := topS 7
abbrev s_value : Stmt := topS 9
abbrev s_angle_value : Stmt := topS 10
abbrev s__law_start : Stmt := topS 12
abbrev s__law_draw : Stmt := topS 13
abbrev s__law_pick : Stmt := topS 14
abbrev s__law_is_number : Stmt := topS 15
abbrev s__law_is : Stmt := topS 16
abbrev s__law_number : Stmt := topS 17
abbrev s__law_divisor : Stmt := topS 18
abbrev s__law_angle : Stmt := topS 19
abbrev s__law_quantity : Stmt := topS 20
abbrev s__law_arch : Stmt := topS 21
abbrev s__law_wave : Stmt := topS 22
abbrev s__law_angle_at : Stmt := topS 23
abbrev s__law_value : Stmt := topS 24
abbrev s_law : Stmt := topS 25
theorem sc_arch : FnScope ["u"] ["u"] (defScope s_arch) := ⟨rfl, rfl, rfl, by decide +kernel, rfl, by decide +kernel, by decide +kernel⟩
theorem sc_wave : FnScope ["x", "r"] ["x"] (defScope s_wave) := ⟨rfl, rfl, rfl, by decide +kernel, rfl, by decide +kernel, by decide +kernel⟩
theorem sc_value : FnScope ["q", "t", "word", "v"] ["q", "t"] (defScope s_value) := ⟨rfl, rfl, rfl, by decide +kernel, rfl, by decide +kernel, by decide +kernel⟩
theorem sc_angle_value : FnScope ["a", "t", "word"] ["a", "t"] (defScope s_angle_value) := ⟨rfl, rfl, rfl, by decide +kernel, rfl, by decide +kernel, by decide +kernel⟩
theorem sc__law_start : FnScope ["script", "cell"] ["script"] (defScope s__law_start) := ⟨rfl, rfl, rfl, by decide +kernel, rfl, by decide +kernel, by decide +kernel⟩
theorem sc__law_draw : FnScope ["state", "bound", "cell", "number"] ["state", "bound"] (defScope s__law_draw) := ⟨rfl, rfl, rfl, by decide +kernel, rfl, by decide +kernel, by decide +kernel⟩
theorem sc__law_pick : FnScope ["state", "things"] ["state", "things"] (defScope s__law_pick) := ⟨rfl, rfl, rfl, by decide +kernel, rfl, by decide +kernel, by decide +kernel⟩
theorem sc__law_is_number : FnScope ["thing"] ["thing"] (defScope s__law_is_number) := ⟨rfl, rfl, rfl, by decide +kernel, rfl, by decide +kernel, by decide +kernel⟩
theorem sc__law_is : FnScope ["actual", "due"] ["actual", "due"] (defScope s__law_is) := ⟨rfl, rfl, rfl, by decide +kernel, rfl, by decide +kernel, by decide +kernel⟩
theorem sc__law_number : FnScope ["state"] ["state"] (defScope s__law_number) := ⟨rfl, rfl, rfl, by decide +kernel, rfl, by decide +kernel, by decide +kernel⟩
theorem sc__law_divisor : FnScope ["state"] ["state"] (defScope s__law_divisor) := ⟨rfl, rfl, rfl, by decide +kernel, rfl, by decide +kernel, by decide +kernel⟩
theorem sc__law_angle : FnScope ["state", "deep", "kind", "speed"] ["state", "deep"] (defScope s__law_angle) := ⟨rfl, rfl, rfl, by decide +kernel, rfl, by decide +kernel, by decide +kernel⟩
theorem sc__law_quantity : FnScope ["state", "deep", "kind", "k"] ["state", "deep"] (defScope s__law_quantity) := ⟨rfl, rfl, rfl, by decide +kernel, rfl, by decide +kernel, by decide +kernel⟩
theorem sc__law_arch : FnScope ["u", "q"] ["u"] (defScope s__law_arch) := ⟨rfl, rfl, rfl, by decide +kernel, rfl, by decide +kernel, by decide +kernel⟩
theorem sc__law_wave : FnScope ["x"] ["x"] (defScope s__law_wave) := ⟨rfl, rfl, rfl, by decide +kernel, rfl, by decide +kernel, by decide +kernel⟩
theorem sc__law_angle_at : FnScope ["a", "t"] ["a", "t"] (defScope s__law_angle_at) := ⟨rfl, rfl, rfl, by decide +kernel, rfl, by decide +kernel, by decide +kernel⟩
theorem sc__law_value : FnScope ["q", "t", "part"] ["q", "t"] (defScope s__law_value) := ⟨rfl, rfl, rfl, by decide +kernel, rfl, by decide +kernel, by decide +kernel⟩
theorem sc_law : FnScope ["script", "state", "q", "a", "k", "t", "found", "turned", "n"] ["script"] (defScope s_law) := ⟨rfl, rfl, rfl, by decide +kernel, rfl, by decide +kernel, by decide +kernel⟩
/-- what the top has left -/
structure Txt (K : PySem.W.Frag) (mg : Str → Option Value) : Prop where
  c_TURN : ∃ t, mg "TURN" = some (.int 1296000 t)
  c_HALF_TURN : ∃ t, mg "HALF_TURN" = some (.int 648000 t)
  c_QUARTER : ∃ t, mg "QUARTER" = some (.int 324000 t)
  c_ARCH_TOP : ∃ t, mg "ARCH_TOP" = some (.int 314928000000 t)
  c_ARCH_SCALE : ∃ t, mg "ARCH_SCALE" = some (.int 68024448000 t)
  m_abs : mg "abs" = none
  m_bool : mg "bool" = none
  m_int : mg "int" = none
  m_isinstance : mg "isinstance" = none
  m_len : mg "len" = none
  m_max : mg "max" = none
  m_min : mg "min" = none
  m_range : mg "range" = none
  m_sum : mg "sum" = none
  m_tuple : mg "tuple" = none
  d_arch : ∃ (f : Addr) (fd : FuncData), Fun K "arch" "arch" s_arch f fd ∧ mg "arch" = some (.ref f) ∧ L2.Binds K fd ["u"] []
  d_wave : ∃ (f : Addr) (fd : FuncData), Fun K "wave" "wave" s_wave f fd ∧ mg "wave" = some (.ref f) ∧ L2.Binds K fd ["x"] []
  d_value : ∃ (f : Addr) (fd : FuncData), Fun K "value" "value" s_value f fd ∧ mg "value" = some (.ref f) ∧ L2.Binds K fd ["q", "t"] []
  d_angle_value : ∃ (f : Addr) (fd : FuncData), Fun K "angle_value" "angle_value" s_angle_value f fd ∧ mg "angle_value" = some (.ref f) ∧ L2.Binds K fd ["a", "t"] []
  d__law_start : ∃ (f : Addr) (fd : FuncData), Fun K "_law_start" "_law_start" s__law_start f fd ∧ mg "_law_start" = some (.ref f) ∧ L2.Binds K fd ["script"] []
  d__law_draw : ∃ (f : Addr) (fd : FuncData), Fun K "_law_draw" "_law_draw" s__law_draw f fd ∧ mg "_law_draw" = some (.ref f) ∧ L2.Binds K fd ["state", "bound"] []
  d__law_pick : ∃ (f : Addr) (fd : FuncData), Fun K "_law_pick" "_law_pick" s__law_pick f fd ∧ mg "_law_pick" = some (.ref f) ∧ L2.Binds K fd ["state", "things"] []
  d__law_is_number : ∃ (f : Addr) (fd : FuncData), Fun K "_law_is_number" "_law_is_number" s__law_is_number f fd ∧ mg "_law_is_number" = some (.ref f) ∧ L2.Binds K fd ["thing"] []
  d__law_is : ∃ (f : Addr) (fd : FuncData), Fun K "_law_is" "_law_is" s__law_is f fd ∧ mg "_law_is" = some (.ref f) ∧ L2.Binds K fd ["actual", "due"] []
  d__law_number : ∃ (f : Addr) (fd : FuncData), Fun K "_law_number" "_law_number" s__law_number f fd ∧ mg "_law_number" = some (.ref f) ∧ L2.Binds K fd ["state"] []
  d__law_divisor : ∃ (f : Addr) (fd : FuncData), Fun K "_law_divisor" "_law_divisor" s__law_divisor f fd ∧ mg "_law_divisor" = some (.ref f) ∧ L2.Binds K fd ["state"] []
  d__law_angle : ∃ (f : Addr) (fd : FuncData), Fun K "_law_angle" "_law_angle" s__law_angle f fd ∧ mg "_law_angle" = some (.ref f) ∧ L2.Binds K fd ["state", "deep"] []
  d__law_quantity : ∃ (f : Addr) (fd : FuncData), Fun K "_law_quantity" "_law_quantity" s__law_quantity f fd ∧ mg "_law_quantity" = some (.ref f) ∧ L2.Binds K fd ["state", "deep"] []
  d__law_arch : ∃ (f : Addr) (fd : FuncData), Fun K "_law_arch" "_law_arch" s__law_arch f fd ∧ mg "_law_arch" = some (.ref f) ∧ L2.Binds K fd ["u"] []
  d__law_wave : ∃ (f : Addr) (fd : FuncData), Fun K "_law_wave" "_law_wave" s__law_wave f fd ∧ mg "_law_wave" = some (.ref f) ∧ L2.Binds K fd ["x"] []
  d__law_angle_at : ∃ (f : Addr) (fd : FuncData), Fun K "_law_angle_at" "_law_angle_at" s__law_angle_at f fd ∧ mg "_law_angle_at" = some (.ref f) ∧ L2.Binds K fd ["a", "t"] []
  d__law_value : ∃ (f : Addr) (fd : FuncData), Fun K "_law_value" "_law_value" s__law_value f fd ∧ mg "_law_value" = some (.ref f) ∧ L2.Binds K fd ["q", "t"] []
  d_law : ∃ (f : Addr) (fd : FuncData), Fun K "law" "law" s_law f fd ∧ mg "law" = some (.ref f) ∧ L2.Binds K fd ["script"] []
section
open Rd
variable {P : Program} {w : World} {K : PySem.W.Frag} {mg : Str → Option Value} {base : Heap}
def spDraw : Sp := fun vs H Q _ => ∃ (d cc : Addr) (b : Int), vs = [.ref d, .int b] ∧ DrawS H d cc ∧ 0 < b ∧ b < 18446744073709551616 ∧
  ∀ n H', 0 ≤ n → n < b → DrawS H' d cc → But d H H' → Q (.int n) H'
theorem draw_end {H H' : Hp} {d c : Addr} {a l m a' l' m' n : Int} {b : Int} {cs : List Int} {Q : VK} (q : ∀ n H', 0 ≤ n → n < b → DrawS H' d c → But d H H' → Q (.int n) H') (h1 : H d = some (.dK (stK c a l m))) (h2 : H c = some (.lst (cs.map V.int))) (h3 : ∀ x ∈ cs, 0 ≤ x)
    (e : H' d = some (.dK (stK c a' l' m'))) (k : But d H H') (ha : 0 ≤ a') (hl : 0 ≤ l') (h0 : 0 ≤ m') (hm : m' < 2147483648) (hn : 0 ≤ n) (hb : n < b) : Q (.int n) H' := by
  have nc : c ≠ d := ne_of h2 h1 (by intro z; cases z)
  exact q n H' hn hb ⟨a', l', m', cs, e, k _ _ nc h2, ha, hl, h0, hm, h3⟩ k
set_option maxHeartbeats 4000000 in
theorem ok_draw (T : Txt K mg) : ∃ (f : Addr) (fd : FuncData), FnOk P w K mg base CX0 1 f fd ["state", "bound"] spDraw ∧ mg "_law_draw" = some (.ref f) ∧ PySem.W.keepIn K (.ref f) = true ∧ L2.Binds K fd ["state", "bound"] [] := by
  obtain ⟨f, fd, F, g, bi⟩ := T.d__law_draw
  refine ⟨f, fd, ?_, g, F.kp, bi⟩
  refine F.ok sc__law_draw (fun vs H Q E h => ?_) (fun cdv A outer s H vs Q E hr h => ?_)
  · obtain ⟨d, cc, n, rfl, _⟩ := h; rfl
  · obtain ⟨d, c, b, rfl, ⟨a, l, m, cs, hd, hc, ha, hl, hm0, hm1, hcs⟩, hb0, hb1, q⟩ := h
    have nc : c ≠ d := ne_of hc hd (by intro z; cases z)
    refine ⟨_, (pss_cons (ps_if (PW.pt (pw_and (pt_cmpR op_eq (pe_dget (hu_of hr) (pv 0) pe_str (fun _ _ => rfl)) pe_int (nomark _)) (pw_and1 (pt_cmpR op_lt (pe_dget (hu_of hr) (pv 0) pe_str (fun _ _ => rfl)) (pe_callB call_len_seq (by rfl) T.m_len (by decide +kernel) (pa_cons (pe_dget (hu_of hr) (pv 0) pe_str (fun _ _ => rfl)) pa_nil)) (nomark _))))) (pss_cons (ps_set (i := 2) sc__law_draw.nd rfl (by first | exact Or.inl rfl | exact Or.inr rfl) (pe_ix ix_list (pe_dget (hu_of hr) (pv 0) pe_str (fun _ _ => rfl)) (pe_dget (hu_of hr) (pv 0) pe_str (fun _ _ => rfl)) (fun _ _ => rfl)))
      (pss_cons (ps_dput (hu_of hr) (pv 0) pe_str (pe_op op_add (pe_dget (hu_of hr) (pv 0) pe_str (fun _ _ => rfl)) pe_int) rfl)
      (pss_cons (ps_dput (hu_of hr) (pv 0) pe_str (pe_op op_mod (pe_callTy call_int1 (by rfl) T.m_int (by decide +kernel) (pa_cons (pe_op op_add (pe_op op_add (pe_op op_mul (pe_dget (hu_of hr) (pv 0) pe_str (fun _ _ => rfl)) pe_int) (pv 2)) pe_int) pa_nil)) pe_int) rfl)
      (pss_cons (ps_if (pt_cmpR op_lt (pv 2) (pe_op op_pow pe_int pe_int) (nomark _)) (pss_one (ps_ret (pe_op op_mod (pe_callTy call_int1 (by rfl) T.m_int (by decide +kernel) (pa_cons (pv 2) pa_nil)) (pv 1)))) pss_nil)
      (pss_one (ps_dput (hu_of hr) (pv 0) pe_str (pv 2) rfl)))))) pss_nil)
      (pss_cons (ps_if (pt_cmpR op_gt (pe_dget (hu_of hr) (pv 0) pe_str (fun _ _ => rfl)) pe_int (nomark _)) (pss_cons (ps_set (i := 3) sc__law_draw.nd rfl (by first | exact Or.inl rfl | exact Or.inr rfl) (pe_op op_mod (pe_callTy call_int1 (by rfl) T.m_int (by decide +kernel) (pa_cons (pe_dget (hu_of hr) (pv 0) pe_str (fun _ _ => rfl)) pa_nil)) (pv 1)))
      (pss_cons (ps_dput (hu_of hr) (pv 0) pe_str (pe_op op_fdivW (pe_dget (hu_of hr) (pv 0) pe_str (fun _ _ => rfl)) (pv 1)) rfl)
      (pss_one (ps_ret (pv 3))))) pss_nil)
      (pss_cons (ps_dput (hu_of hr) (pv 0) pe_str (pe_op op_mod (pe_callTy call_int1 (by rfl) T.m_int (by decide +kernel) (pa_cons (pe_op op_add (pe_op op_mul (pe_dget (hu_of hr) (pv 0) pe_str (fun _ _ => rfl)) pe_int) pe_int) pa_nil)) pe_int) rfl)
      (pss_one (ps_ret (pe_op op_mod (pe_callTy call_int1 (by rfl) T.m_int (by decide +kernel) (pa_cons (pe_op op_mod (pe_callTy call_int1 (by rfl) T.m_int (by decide +kernel) (pa_cons (pe_op op_add (pe_op op_mul (pe_dget (hu_of hr) (pv 0) pe_str (fun _ _ => rfl)) pe_int) pe_int) pa_nil)) pe_int) pa_nil)) (pv 1))))))), ?_⟩
    refine Rd.start (σ' := [some (.ref d), some (.int b), none, none]) rfl ?_
    try dsimp only [cxOf, Cx.nox, Cx.wish]
    by_cases l0 : l = 0
    · subst l0
      by_cases hin : a < ((cs.map V.int).length : Int)
      · obtain ⟨z, hz, hz0⟩ : ∃ z, atI (cs.map V.int) a = some (.int z) ∧ 0 ≤ z := by
          have e : ((a.toNat : Nat) : Int) = a := by omega
          have hlt : a.toNat < cs.length := by rw [List.length_map] at hin; omega
          have h2 : atI (cs.map V.int) ((a.toNat : Nat) : Int) = some (.int cs[a.toNat]) := atI_nat (by rw [List.getElem?_map, List.getElem?_eq_getElem hlt]; rfl)
          rw [e] at h2
          exact ⟨cs[a.toNat], h2, hcs _ (List.getElem_mem hlt)⟩
        have e18 : (10 : Int) ^ Int.toNat 18 = 1000000000000000000 := by decide
        by_cases hb : z < (10 : Int) ^ Int.toNat 18
        · walk_at "go"
          exact draw_end q hd hc hcs upd_same (But.put.trans But.put) (by omega) (by omega) (Int.emod_nonneg _ (by decide)) (by have := Int.emod_lt_of_pos (m * 48271 + z + 11) (show (0 : Int) < 2147483647 by decide); omega) (Int.emod_nonneg _ (by omega)) (Int.emod_lt_of_pos _ hb0)
        · have hz1 : 0 < z := by omega
          have hzb : 0 ≤ z / b := Int.ediv_nonneg hz0 (by omega)
          walk_at "go"
          exact draw_end q hd hc hcs upd_same (((But.put.trans But.put).trans But.put).trans But.put) (by omega) hzb (Int.emod_nonneg _ (by decide)) (by have := Int.emod_lt_of_pos (m * 48271 + z + 11) (show (0 : Int) < 2147483647 by decide); omega) (Int.emod_nonneg _ (by omega)) (Int.emod_lt_of_pos _ hb0)
      · walk_at "go"
        exact draw_end q hd hc hcs upd_same But.put (by omega) (by omega) (Int.emod_nonneg _ (by decide)) (by have := Int.emod_lt_of_pos (m * 48271 + 11) (show (0 : Int) < 2147483647 by decide); omega) (Int.emod_nonneg _ (by omega)) (Int.emod_lt_of_pos _ hb0)
    · have hlb : 0 ≤ l / b := Int.ediv_nonneg hl (by omega)
      walk_at "go"
      exact draw_end q hd hc hcs upd_same But.put ha hlb hm0 hm1 (Int.emod_nonneg _ (by omega)) (Int.emod_lt_of_pos _ hb0)
theorem draw_go {H : Hp} {d cc : Addr} {b : Int} {Q : VK} {E : XK} (S : DrawS H d cc) (h0 : 0 < b) (h1 : b < 18446744073709551616) (q : ∀ n H', 0 ≤ n → n < b → DrawS H' d cc → But d H H' → Q (.int n) H') : CALL spDraw [.ref d, .int b] H Q E := ⟨d, cc, b, rfl, S, h0, h1, q⟩
def spPick : Sp := fun vs H Q _ => ∃ (d cc l : Addr) (xs : List V), vs = [.ref d, .ref l] ∧ DrawS H d cc ∧ H l = some (.lst xs) ∧ 0 < xs.length ∧ xs.length ≤ 1000 ∧
  ∀ x H', x ∈ xs → DrawS H' d cc → But d H H' → Q x H'
set_option maxHeartbeats 4000000 in
theorem ok_pick (T : Txt K mg) : ∃ (f : Addr) (fd : FuncData), FnOk P w K mg base CX0 2 f fd ["state", "things"] spPick ∧ mg "_law_pick" = some (.ref f) ∧ PySem.W.keepIn K (.ref f) = true ∧ L2.Binds K fd ["state", "things"] [] := by
  obtain ⟨f, fd, F, g, bi⟩ := T.d__law_pick
  obtain ⟨f__law_draw, fd__law_draw, G__law_draw, g__law_draw, kp__law_draw, b__law_draw⟩ := ok_draw (P := P) (w := w) (base := base) T
  refine ⟨f, fd, ?_, g, F.kp, bi⟩
  refine F.ok sc__law_pick (fun vs H Q E h => ?_) (fun cdv A outer s H vs Q E hr h => ?_)
  · obtain ⟨d, cc, n, xs, rfl, _⟩ := h; rfl
  · obtain ⟨d, cc, l, xs, rfl, S, hl, h0, h1, q⟩ := h
    refine ⟨_, (pss_one (ps_ret (pe_ix ix_list (pv 1) (pe_call G__law_draw (hr.mono (by omega)) (by rfl) g__law_draw kp__law_draw b__law_draw .nil pass0 (pa_cons (pv 0) (pa_cons (pe_callB call_len_seq (by rfl) T.m_len (by decide +kernel) (pa_cons (pv 1) pa_nil)) pa_nil))) (fun _ _ => rfl)))), ?_⟩
    refine Rd.start (σ' := [some (.ref d), some (.ref l)]) rfl ?_
    try dsimp only [cxOf, Cx.nox, Cx.wish]
    walk_at "go"
    refine draw_go S (by omega) (by omega) fun n H1 n0 n1 S1 B1 => ?_
    have hl1 : H1 l = some (.lst xs) := B1 _ _ (S.ne hl) hl
    have hlt : n.toNat < xs.length := by omega
    have hz : atI xs n = some xs[n.toNat] := by
      have e : ((n.toNat : Nat) : Int) = n := by omega
      have h2 : atI xs ((n.toNat : Nat) : Int) = some xs[n.toNat] := atI_nat (List.getElem?_eq_getElem hlt)
      rw [e] at h2
      exact h2
    walk_at "go"
    exact q _ H1 (List.getElem_mem hlt) S1 B1
theorem pick_go {H : Hp} {d l : Addr} {xs : List V} {Q : VK} {E : XK} (S : DrawS H d cc) (hl : H l = some (.lst xs)) (h0 : 0 < xs.length) (h1 : xs.length ≤ 1000) (q : ∀ x H', x ∈ xs → DrawS H' d cc → But d H H' → Q x H') : CALL spPick [.ref d, .ref l] H Q E := ⟨d, cc, l, xs, rfl, S, hl, h0, h1, q⟩
theorem pickD {H : Hp} {d cc : Addr} {xs : List V} {σ : L2.St} {Q : VK} {E : XK} (S : DrawS H d cc) (h0 : 0 < xs.length) (h1 : xs.length ≤ 1000) (q : ∀ x H', x ∈ xs → DrawS H' d cc → But d H H' → Q x H') :
    NEW HO.lst xs H fun v H1 => tNil σ H1 fun ys H2 => CALL spPick (V.ref d :: v :: ys) H2 Q E :=
  Rd.new h1 fun p np => pick_go (S.new np) upd_same h0 h1 fun x H' hx S' B' => q x H' hx S' ((But.new np).trans B')
theorem pickI {H : Hp} {d cc : Addr} {xs : List V} {σ : L2.St} {Q : VK} {E : XK} (ks : List Int) (lo hi : Int) (S : DrawS H d cc) (e : xs = ks.map V.int) (h0 : 0 < ks.length) (h1 : ks.length ≤ 1000) (hb : ∀ k ∈ ks, lo ≤ k ∧ k ≤ hi) (q : ∀ k H', k ∈ ks → lo ≤ k → k ≤ hi → DrawS H' d cc → But d H H' → Q (.int k) H') :
    NEW HO.lst xs H fun v H1 => tNil σ H1 fun ys H2 => CALL spPick (V.ref d :: v :: ys) H2 Q E := by
  subst e
  refine pickD S (by rw [List.length_map]; exact h0) (by rw [List.length_map]; exact h1) fun x H' hx S' B' => ?_
  obtain ⟨k, hk, rfl⟩ := List.mem_map.mp hx
  exact q k H' hk (hb k hk).1 (hb k hk).2 S' B'
def spStart (K : PySem.W.Frag) : Sp := fun vs H Q _ => ∃ (a : Addr) (ns : List Int), vs = [.ref a] ∧ SqL K H a (ns.map V.int) ∧ ns.length ≤ 63 ∧ ∀ d cc H', DrawS H' d cc → Same H H' → H d = none → Q (.ref d) H'
set_option maxHeartbeats 4000000 in
theorem ok_start (T : Txt K mg) : ∃ (f : Addr) (fd : FuncData), FnOk P w K mg base CX0 1 f fd ["script"] (spStart K) ∧ mg "_law_start" = some (.ref f) ∧ PySem.W.keepIn K (.ref f) = true ∧ L2.Binds K fd ["script"] [] := by
  obtain ⟨f, fd, F, g, bi⟩ := T.d__law_start
  refine ⟨f, fd, ?_, g, F.kp, bi⟩
  refine F.ok sc__law_start (fun vs H Q E h => ?_) (fun cdv A outer s H vs Q E hr h => ?_)
  · obtain ⟨a, ns, rfl, _⟩ := h; rfl
  · obtain ⟨a, ns, rfl, hS, hlen, q⟩ := h
    refine ⟨_, (pss_one (ps_ret (pe_disp (pps_cons pe_str (pe_lc (own := [("cell", 1)]) (g := gName 1) (tt := tYes) (by rfl) sc__law_start.nd (pi_list (pv 0)) (blkOk_by (own := [("cell", 1)]) (N := ["script", "cell"]) (sc := defScope s__law_start) (by decide +kernel)) (fun _ _ _ _ _ => (pg_name (i := 1) sc__law_start.nd rfl (Or.inl rfl))) (fun _ _ _ _ _ => pts_nil) (fun _ _ _ _ _ => (pe_callB call_abs (by rfl) T.m_abs (by decide +kernel) (pa_cons (pe_callTy call_int1 (by rfl) T.m_int (by decide +kernel) (pa_cons (pv 1) pa_nil)) pa_nil)))) (pps_cons pe_str pe_int (pps_cons pe_str pe_int (pps_cons pe_str (pe_op op_add pe_int (pe_callB call_len_seq (by rfl) T.m_len (by decide +kernel) (pa_cons (pv 0) pa_nil))) pps_nil)))) (by rfl) (by rfl) (fun z => by cases z) (by decide)))), ?_⟩
    refine Rd.start (σ' := [some (.ref a), none]) rfl ?_
    try dsimp only [cxOf, Cx.nox, Cx.wish]
    refine Rd.disp fun p np => ?_
    walk_at "go"
    have hS1 : SqL K (upd H p (.dK [])) a (ns.map V.int) := (Same.put np).seq hS
    refine Rd.lclGo (σ0 := [some (.ref a), none]) rfl hS1 (fun D i H' => p ≠ D ∧ H D = none ∧ H' D = some (.lst ((((ns.map fun z => if z < 0 then -z else z)).take i).map V.int)) ∧ H' p = some (.dK []) ∧ Same H H') (fun D nD => ⟨ne_of_none upd_same nD, free nD, upd_same, keep nD upd_same, (Same.put np).trans (Same.put nD)⟩) (fun D i H' _ h => h.2.2.2.2.seq hS) (fun D i x H' hx h => ?_) (fun D H' nD h => ?_)
    · obtain ⟨npD, nDH, hD, hp, sm⟩ := h
      have hil : i < ns.length := by
        have := (List.getElem?_eq_some_iff.mp hx).1
        rw [List.length_map] at this
        exact this
      rw [List.getElem?_map, List.getElem?_eq_getElem hil] at hx
      cases hx
      walk_at "go"
      refine Rd.lcn hD (by rw [List.length_map, List.length_take]; omega) ?_
      refine ⟨npD, nDH, ?_, keepN npD hp, Same.mut sm nDH⟩
      rw [upd_same, List.take_add_one, List.getElem?_map, List.getElem?_eq_getElem hil, List.map_append]
      rfl
    · obtain ⟨npD, nDH, hD, hp, sm⟩ := h
      have hS2 : SqL K H' a (ns.map V.int) := sm.seq hS
      have hcs : ∀ x ∈ ns.map (fun z => if z < 0 then -z else z), 0 ≤ x := by
        intro x hx
        obtain ⟨z, _, rfl⟩ := List.mem_map.mp hx
        split <;> omega
      rw [List.length_map, List.take_of_length_le (by rw [List.length_map]; omega)] at hD
      walk_at "go"
      refine Rd.dispK [((.inr "cells" : Key), V.ref D), (.inr "at", .int 0), (.inr "left", .int 0), (.inr "mix", .int (7 + ((ns.map V.int).length : Int)))] hp rfl (by simp) ?_
      rw [p_start]
      refine q p D _ ⟨0, 0, _, _, upd_same, keepN npD.symm hD, by omega, by omega, by omega, ?_, hcs⟩ (Same.mut sm np) np
      rw [List.length_map]
      omega
theorem start_go {H : Hp} {a : Addr} {ns : List Int} {Q : VK} {E : XK} (hS : SqL K H a (ns.map V.int)) (hl : ns.length ≤ 63) (q : ∀ d cc H', DrawS H' d cc → Same H H' → H d = none → Q (.ref d) H') : CALL (spStart K) [.ref a] H Q E := ⟨a, ns, rfl, hS, hl, q⟩
end

/-- the numerator -/
def f (u : Int) : Int := u * (314928000000 - u * u)
def arch (u : Int) : Int := f u / 68024448000
def wave (x : Int) : Int :=
  let r := x % 1296000
  if r < 324000 then arch r
  else if r < 648000 then arch (648000 - r)
  else if r < 972000 then -arch (r - 648000)
  else -arch (1296000 - r)
/-- the exact numerator of a wave -/
def W (x : Int) : Int :=
  let r := x % 1296000
  if r < 324000 then f r
  else if r < 648000 then f (648000 - r)
  else if r < 972000 then -f (r - 648000)
  else -f (1296000 - r)
theorem f_step (u : Int) : f (u + 1) - f u = 314928000000 - (3 * (u * u) + 3 * u + 1) := by
  unfold f; grind
theorem sq_le {u q : Int} (h0 : 0 ≤ u) (h : u ≤ q) : u * u ≤ q * q := Int.mul_le_mul h h h0 (by omega)
theorem f_up {u : Int} (h0 : 0 ≤ u) (h : u < 324000) : 0 ≤ f (u + 1) - f u ∧ f (u + 1) - f u ≤ 314928000000 := by
  rw [f_step]
  have h1 : u * u ≤ 323999 * 323999 := sq_le h0 (by omega)
  have h2 : 0 ≤ u * u := Int.mul_nonneg h0 h0
  omega
theorem f_nn {u : Int} (h0 : 0 ≤ u) (h : u ≤ 324000) : 0 ≤ f u := by
  have h1 : u * u ≤ 324000 * 324000 := sq_le h0 h
  exact Int.mul_nonneg h0 (by omega)
theorem f_le {u : Int} (h0 : 0 ≤ u) (h : u ≤ 324000) : f u ≤ 68024448000 * 1000000 := by
  have h1 : 0 ≤ (324000 - u) * (324000 - u) := Int.mul_nonneg (by omega) (by omega)
  have h2 : 0 ≤ ((324000 - u) * (324000 - u)) * (648000 + u) := Int.mul_nonneg h1 (by omega)
  unfold f
  grind
theorem arch_nn {u : Int} (h0 : 0 ≤ u) (h : u ≤ 324000) : 0 ≤ arch u := Int.ediv_nonneg (f_nn h0 h) (by decide)
theorem arch_le {u : Int} (h0 : 0 ≤ u) (h : u ≤ 324000) : arch u ≤ 1000000 := by
  have := f_le h0 h
  unfold arch
  omega
theorem arch_up {u : Int} (h0 : 0 ≤ u) (h : u < 324000) : arch u ≤ arch (u + 1) := by
  have := (f_up h0 h).1
  unfold arch
  omega
theorem arch_due (u : Int) : 1000000 * u * (3 * 324000 * 324000 - u * u) / (2 * 324000 * 324000 * 324000) = arch u := by
  have e : 1000000 * u * (3 * 324000 * 324000 - u * u) = 1000000 * f u := by unfold f; grind
  rw [e]
  unfold arch
  omega
theorem arch0 : arch 0 = 0 := by decide
theorem archq : arch 324000 = 1000000 := by decide
theorem wave_W (x : Int) : (0 ≤ W x ∧ wave x = W x / 68024448000) ∨ (W x ≤ 0 ∧ wave x = -((-W x) / 68024448000)) := by
  unfold wave W
  have h0 : 0 ≤ x % 1296000 := Int.emod_nonneg _ (by decide)
  have h1 : x % 1296000 < 1296000 := Int.emod_lt_of_pos _ (by decide)
  generalize x % 1296000 = r at *
  dsimp only
  by_cases a : r < 324000
  · rw [if_pos a, if_pos a]; exact .inl ⟨f_nn h0 (by omega), rfl⟩
  · rw [if_neg a, if_neg a]
    by_cases b : r < 648000
    · rw [if_pos b, if_pos b]; exact .inl ⟨f_nn (by omega) (by omega), rfl⟩
    · rw [if_neg b, if_neg b]
      by_cases c : r < 972000
      · rw [if_pos c, if_pos c]
        have := f_nn (u := r - 648000) (by omega) (by omega)
        refine .inr ⟨by omega, ?_⟩
        rw [Int.neg_neg]; rfl
      · rw [if_neg c, if_neg c]
        have := f_nn (u := 1296000 - r) (by omega) (by omega)
        refine .inr ⟨by omega, ?_⟩
        rw [Int.neg_neg]; rfl
theorem W_step (x : Int) : W (x + 1) - W x ≤ 314928000000 ∧ W x - W (x + 1) ≤ 314928000000 := by
  unfold W
  have h0 : 0 ≤ x % 1296000 := Int.emod_nonneg _ (by decide)
  have h1 : x % 1296000 < 1296000 := Int.emod_lt_of_pos _ (by decide)
  have h2 : (x + 1) % 1296000 = if x % 1296000 = 1295999 then 0 else x % 1296000 + 1 := by split <;> omega
  rw [h2]
  generalize x % 1296000 = r at *
  clear h2 x
  dsimp only
  have q1 : f 324000 = f (648000 - 324000) := by decide
  have z : f 0 = 0 := by decide
  by_cases a : r < 324000
  · have s := f_up h0 a
    rw [if_neg (show ¬ r = 1295999 by omega), if_pos a]
    by_cases b : r + 1 < 324000
    · rw [if_pos b]; omega
    · have e : r = 323999 := by omega
      subst e
      decide
  · rw [if_neg a]
    by_cases b : r < 648000
    · have s := f_up (u := 648000 - r - 1) (by omega) (by omega)
      rw [show 648000 - r - 1 + 1 = 648000 - r by omega] at s
      rw [if_neg (show ¬ r = 1295999 by omega), if_pos b, if_neg (show ¬ r + 1 < 324000 by omega)]
      by_cases c : r + 1 < 648000
      · rw [if_pos c, show 648000 - (r + 1) = 648000 - r - 1 by omega]; omega
      · have e : r = 647999 := by omega
        subst e
        decide
    · rw [if_neg b]
      by_cases c : r < 972000
      · have s := f_up (u := r - 648000) (by omega) (by omega)
        rw [show r - 648000 + 1 = r + 1 - 648000 by omega] at s
        rw [if_neg (show ¬ r = 1295999 by omega), if_pos c, if_neg (show ¬ r + 1 < 324000 by omega), if_neg (show ¬ r + 1 < 648000 by omega)]
        by_cases d : r + 1 < 972000
        · rw [if_pos d]; omega
        · have e : r = 971999 := by omega
          subst e
          decide
      · have s := f_up (u := 1296000 - r - 1) (by omega) (by omega)
        rw [show 1296000 - r - 1 + 1 = 1296000 - r by omega] at s
        rw [if_neg c]
        by_cases d : r = 1295999
        · subst d; decide
        · rw [if_neg d, if_neg (show ¬ r + 1 < 324000 by omega), if_neg (show ¬ r + 1 < 648000 by omega), if_neg (show ¬ r + 1 < 972000 by omega), show 1296000 - (r + 1) = 1296000 - r - 1 by omega]
          omega
theorem W_far (x : Int) : ∀ n : Nat, W (x + n) - W x ≤ 314928000000 * n ∧ W x - W (x + n) ≤ 314928000000 * n
  | 0 => by simp
  | n + 1 => by
    have h := W_far x n
    have s := W_step (x + n)
    have e : x + ((n + 1 : Nat) : Int) = x + n + 1 := by omega
    rw [e]
    omega
theorem W_lip (x y : Int) : W x - W y ≤ 314928000000 * (if x - y < 0 then -(x - y) else x - y) := by
  by_cases h : x - y < 0
  · rw [if_pos h]
    have a := (W_far x (y - x).toNat).2
    have e : ((y - x).toNat : Int) = y - x := by omega
    rw [e, show x + (y - x) = y by omega] at a
    omega
  · rw [if_neg h]
    have a := (W_far y (x - y).toNat).1
    have e : ((x - y).toNat : Int) = x - y := by omega
    rw [e, show y + (x - y) = x by omega] at a
    omega
theorem wave_lip (x y : Int) : wave x - wave y ≤ 125 * (if x - y < 0 then -(x - y) else x - y) / 27 + 1 := by
  have h := W_lip x y
  have hd : 0 ≤ (if x - y < 0 then -(x - y) else x - y) := by split <;> omega
  generalize (if x - y < 0 then -(x - y) else x - y) = d at *
  rcases wave_W x with ⟨a, e⟩ | ⟨a, e⟩ <;> rcases wave_W y with ⟨b, g⟩ | ⟨b, g⟩ <;> rw [e, g] <;> omega
theorem wave_most (x : Int) : -1000000 ≤ wave x ∧ wave x ≤ 1000000 := by
  unfold wave
  have h0 : 0 ≤ x % 1296000 := Int.emod_nonneg _ (by decide)
  have h1 : x % 1296000 < 1296000 := Int.emod_lt_of_pos _ (by decide)
  generalize x % 1296000 = r at *
  dsimp only
  by_cases a : r < 324000
  · rw [if_pos a]
    have := arch_nn h0 (by omega); have := arch_le h0 (by omega); omega
  · rw [if_neg a]
    by_cases b : r < 648000
    · rw [if_pos b]
      have := arch_nn (u := 648000 - r) (by omega) (by omega); have := arch_le (u := 648000 - r) (by omega) (by omega); omega
    · rw [if_neg b]
      by_cases c : r < 972000
      · rw [if_pos c]
        have := arch_nn (u := r - 648000) (by omega) (by omega); have := arch_le (u := r - 648000) (by omega) (by omega); omega
      · rw [if_neg c]
        have := arch_nn (u := 1296000 - r) (by omega) (by omega); have := arch_le (u := 1296000 - r) (by omega) (by omega); omega
theorem wave_turn (x : Int) : wave (x + 1296000) = wave x := by
  unfold wave
  rw [Int.add_emod_right]
theorem wave_half (x : Int) : wave (x + 648000) = -wave x := by
  unfold wave
  have h0 : 0 ≤ x % 1296000 := Int.emod_nonneg _ (by decide)
  have h1 : x % 1296000 < 1296000 := Int.emod_lt_of_pos _ (by decide)
  have h2 : (x + 648000) % 1296000 = if x % 1296000 < 648000 then x % 1296000 + 648000 else x % 1296000 - 648000 := by split <;> omega
  rw [h2]
  generalize x % 1296000 = r at *
  clear h2 x
  dsimp only
  by_cases a : r < 324000
  · rw [if_pos (show r < 648000 by omega), if_neg (show ¬ r + 648000 < 324000 by omega), if_neg (show ¬ r + 648000 < 648000 by omega), if_pos (show r + 648000 < 972000 by omega), if_pos a]
    rw [show r + 648000 - 648000 = r by omega]
  · by_cases b : r < 648000
    · rw [if_pos b, if_neg (show ¬ r + 648000 < 324000 by omega), if_neg (show ¬ r + 648000 < 648000 by omega), if_neg (show ¬ r + 648000 < 972000 by omega), if_neg a, if_pos b]
      rw [show 1296000 - (r + 648000) = 648000 - r by omega]
    · rw [if_neg b]
      by_cases c : r < 972000
      · rw [if_pos (show r - 648000 < 324000 by omega), if_neg a, if_neg b, if_pos c, Int.neg_neg]
      · rw [if_neg (show ¬ r - 648000 < 324000 by omega), if_pos (show r - 648000 < 648000 by omega), if_neg a, if_neg b, if_neg c, Int.neg_neg]
        rw [show 648000 - (r - 648000) = 1296000 - r by omega]
theorem wave_neg (x : Int) : wave (-x) = -wave x := by
  unfold wave
  have h0 : 0 ≤ x % 1296000 := Int.emod_nonneg _ (by decide)
  have h1 : x % 1296000 < 1296000 := Int.emod_lt_of_pos _ (by decide)
  have h2 : (-x) % 1296000 = if x % 1296000 = 0 then 0 else 1296000 - x % 1296000 := by split <;> omega
  rw [h2]
  generalize x % 1296000 = r at *
  clear h2 x
  dsimp only
  by_cases z : r = 0
  · subst z; decide
  rw [if_neg z]
  by_cases a : r < 324000
  · rw [if_neg (show ¬ 1296000 - r < 324000 by omega), if_neg (show ¬ 1296000 - r < 648000 by omega), if_neg (show ¬ 1296000 - r < 972000 by omega), if_pos a]
    rw [show 1296000 - (1296000 - r) = r by omega]
  · rw [if_neg a]
    by_cases b : r < 648000
    · rw [if_neg (show ¬ 1296000 - r < 324000 by omega), if_neg (show ¬ 1296000 - r < 648000 by omega), if_pos b]
      by_cases b' : r = 324000
      · subst b'; decide
      · rw [if_pos (show 1296000 - r < 972000 by omega), show 1296000 - r - 648000 = 648000 - r by omega]
    · rw [if_neg b]
      by_cases c : r < 972000
      · by_cases c' : r = 648000
        · subst c'; decide
        · rw [if_pos c, if_neg (show ¬ 1296000 - r < 324000 by omega), if_pos (show 1296000 - r < 648000 by omega), Int.neg_neg, show 648000 - (1296000 - r) = r - 648000 by omega]
      · rw [if_neg c]
        by_cases c' : r = 972000
        · subst c'; decide
        · rw [if_pos (show 1296000 - r < 324000 by omega), Int.neg_neg]
/-- the law's own wave -/
def lw (x : Int) : Int :=
  if x % 1296000 ≥ 648000 then -arch (if 1296000 - x % 1296000 < x % 1296000 - 648000 then 1296000 - x % 1296000 else x % 1296000 - 648000)
  else arch (if 648000 - x % 1296000 < x % 1296000 then 648000 - x % 1296000 else x % 1296000)
theorem lw_wave (x : Int) : lw x = wave x := by
  unfold wave lw
  have h0 : 0 ≤ x % 1296000 := Int.emod_nonneg _ (by decide)
  have h1 : x % 1296000 < 1296000 := Int.emod_lt_of_pos _ (by decide)
  generalize x % 1296000 = r at *
  clear x
  dsimp only
  by_cases a : r < 324000
  · rw [if_pos a, if_neg (show ¬ r ≥ 648000 by omega), if_neg (show ¬ 648000 - r < r by omega)]
  · rw [if_neg a]
    by_cases b : r < 648000
    · rw [if_pos b, if_neg (show ¬ r ≥ 648000 by omega)]
      by_cases e : r = 324000
      · subst e; decide
      · rw [if_pos (show 648000 - r < r by omega)]
    · rw [if_neg b, if_pos (show r ≥ 648000 by omega)]
      by_cases c : r < 972000
      · rw [if_pos c, if_neg (show ¬ 1296000 - r < r - 648000 by omega)]
      · rw [if_neg c]
        by_cases e : r = 972000
        · subst e; decide
        · rw [if_pos (show 1296000 - r < r - 648000 by omega)]


section
open Rd
variable {P : Program} {w : World} {K : PySem.W.Frag} {mg : Str → Option Value} {base : Heap}
def spArch : Sp := fun vs H Q _ => ∃ u : Int, vs = [.int u] ∧ -18446744073709551616 < u ∧ u < 18446744073709551616 ∧ Q (.int (arch u)) H
set_option maxHeartbeats 4000000 in
theorem ok_arch (T : Txt K mg) : ∃ (f : Addr) (fd : FuncData), FnOk P w K mg base CX0 1 f fd ["u"] spArch ∧ mg "arch" = some (.ref f) ∧ PySem.W.keepIn K (.ref f) = true ∧ L2.Binds K fd ["u"] [] := by
  obtain ⟨f, fd, F, g, bi⟩ := T.d_arch
  obtain ⟨_, cARCH_TOP⟩ := T.c_ARCH_TOP
  obtain ⟨_, cARCH_SCALE⟩ := T.c_ARCH_SCALE
  refine ⟨f, fd, ?_, g, F.kp, bi⟩
  refine F.ok sc_arch (fun vs H Q E h => ?_) (fun cdv A outer s H vs Q E hr h => ?_)
  · obtain ⟨u, rfl, _⟩ := h; rfl
  · obtain ⟨u, rfl, h0, h1, q⟩ := h
    refine ⟨_, (pss_one (ps_ret (pe_op op_fdivW (pe_op op_mul (pv 0) (pe_op op_sub (pe_glob (v := .int (314928000000)) rfl cARCH_TOP ⟨_, rfl⟩) (pe_op op_mul (pv 0) (pv 0)))) (pe_glob (v := .int (68024448000)) rfl cARCH_SCALE ⟨_, rfl⟩)))), ?_⟩
    refine Rd.start (σ' := [some (.int u)]) rfl ?_
    try dsimp only [cxOf, Cx.nox, Cx.wish]
    walk_at "go"
    exact q
theorem arch_go {H : Hp} {u : Int} {Q : VK} {E : XK} (h0 : -18446744073709551616 < u) (h1 : u < 18446744073709551616) (q : Q (.int (arch u)) H) : CALL spArch [.int u] H Q E := ⟨u, rfl, h0, h1, q⟩
def spWave : Sp := fun vs H Q _ => ∃ x : Int, vs = [.int x] ∧ Q (.int (wave x)) H
set_option maxHeartbeats 4000000 in
theorem ok_wave (T : Txt K mg) : ∃ (f : Addr) (fd : FuncData), FnOk P w K mg base CX0 2 f fd ["x"] spWave ∧ mg "wave" = some (.ref f) ∧ PySem.W.keepIn K (.ref f) = true ∧ L2.Binds K fd ["x"] [] := by
  obtain ⟨f, fd, F, g, bi⟩ := T.d_wave
  obtain ⟨_, cTURN⟩ := T.c_TURN
  obtain ⟨_, cQUARTER⟩ := T.c_QUARTER
  obtain ⟨_, cHALF_TURN⟩ := T.c_HALF_TURN
  obtain ⟨f_arch, fd_arch, G_arch, g_arch, kp_arch, b_arch⟩ := ok_arch (P := P) (w := w) (base := base) T
  refine ⟨f, fd, ?_, g, F.kp, bi⟩
  refine F.ok sc_wave (fun vs H Q E h => ?_) (fun cdv A outer s H vs Q E hr h => ?_)
  · obtain ⟨x, rfl, _⟩ := h; rfl
  · obtain ⟨x, rfl, q⟩ := h
    refine ⟨_, (pss_cons (ps_set (i := 1) sc_wave.nd rfl (by first | exact Or.inl rfl | exact Or.inr rfl) (pe_op op_mod (pv 0) (pe_glob (v := .int (1296000)) rfl cTURN ⟨_, rfl⟩)))
      (pss_cons (ps_if (pt_cmpR op_lt (pv 1) (pe_glob (v := .int (324000)) rfl cQUARTER ⟨_, rfl⟩) (nomark _)) (pss_one (ps_ret (pe_call G_arch (hr.mono (by omega)) (by rfl) g_arch kp_arch b_arch .nil pass0 (pa_cons (pv 1) pa_nil)))) pss_nil)
      (pss_cons (ps_if (pt_cmpR op_lt (pv 1) (pe_glob (v := .int (648000)) rfl cHALF_TURN ⟨_, rfl⟩) (nomark _)) (pss_one (ps_ret (pe_call G_arch (hr.mono (by omega)) (by rfl) g_arch kp_arch b_arch .nil pass0 (pa_cons (pe_op op_sub (pe_glob (v := .int (648000)) rfl cHALF_TURN ⟨_, rfl⟩) (pv 1)) pa_nil)))) pss_nil)
      (pss_cons (ps_if (pt_cmpR op_lt (pv 1) (pe_op op_add (pe_glob (v := .int (648000)) rfl cHALF_TURN ⟨_, rfl⟩) (pe_glob (v := .int (324000)) rfl cQUARTER ⟨_, rfl⟩)) (nomark _)) (pss_one (ps_ret (pe_un un_neg (pe_call G_arch (hr.mono (by omega)) (by rfl) g_arch kp_arch b_arch .nil pass0 (pa_cons (pe_op op_sub (pv 1) (pe_glob (v := .int (648000)) rfl cHALF_TURN ⟨_, rfl⟩)) pa_nil))))) pss_nil)
      (pss_one (ps_ret (pe_un un_neg (pe_call G_arch (hr.mono (by omega)) (by rfl) g_arch kp_arch b_arch .nil pass0 (pa_cons (pe_op op_sub (pe_glob (v := .int (1296000)) rfl cTURN ⟨_, rfl⟩) (pv 1)) pa_nil))))))))), ?_⟩
    refine Rd.start (σ' := [some (.int x), none]) rfl ?_
    try dsimp only [cxOf, Cx.nox, Cx.wish]
    have h0 : 0 ≤ x % 1296000 := Int.emod_nonneg _ (by decide)
    have h1 : x % 1296000 < 1296000 := Int.emod_lt_of_pos _ (by decide)
    unfold wave at q
    dsimp only at q
    by_cases a : x % 1296000 < 324000
    · rw [if_pos a] at q
      walk_at "go"
      refine arch_go (by omega) (by omega) ?_
      exact q
    · rw [if_neg a] at q
      by_cases b : x % 1296000 < 648000
      · rw [if_pos b] at q
        walk_at "go"
        refine arch_go (by omega) (by omega) ?_
        exact q
      · rw [if_neg b] at q
        by_cases c : x % 1296000 < 972000
        · rw [if_pos c] at q
          walk_at "go"
          refine arch_go (by omega) (by omega) ?_
          walk_at "go"
          exact q
        · rw [if_neg c] at q
          walk_at "go"
          refine arch_go (by omega) (by omega) ?_
          walk_at "go"
          exact q
theorem wave_go {H : Hp} {x : Int} {Q : VK} {E : XK} (q : Q (.int (wave x)) H) : CALL spWave [.int x] H Q E := ⟨x, rfl, q⟩
end

section
open Rd
variable {P : Program} {w : World} {K : PySem.W.Frag} {mg : Str → Option Value} {base : Heap}
def spNum : Sp := fun vs H Q _ => ∃ i : Int, vs = [.int i] ∧ Q (.bl true) H
set_option maxHeartbeats 4000000 in
theorem ok_num (T : Txt K mg) : ∃ (f : Addr) (fd : FuncData), FnOk P w K mg base CX0 1 f fd ["thing"] spNum ∧ mg "_law_is_number" = some (.ref f) ∧ PySem.W.keepIn K (.ref f) = true ∧ L2.Binds K fd ["thing"] [] := by
  obtain ⟨f, fd, F, g, bi⟩ := T.d__law_is_number
  refine ⟨f, fd, ?_, g, F.kp, bi⟩
  refine F.ok sc__law_is_number (fun vs H Q E h => ?_) (fun cdv A outer s H vs Q E hr h => ?_)
  · obtain ⟨u, rfl, _⟩ := h; rfl
  · obtain ⟨i, rfl, q⟩ := h
    refine ⟨_, (pss_one (ps_ret (pe_and (pe_callB call_isi (by rfl) T.m_isinstance (by decide +kernel) (pa_cons (pv 0) (pa_cons (pe_bltn (v := .ty "int") (by rfl) T.m_int (by decide +kernel) rfl) pa_nil))) (pe_one (pe_not (pe_callB call_isi (by rfl) T.m_isinstance (by decide +kernel) (pa_cons (pv 0) (pa_cons (pe_bltn (v := .ty "bool") (by rfl) T.m_bool (by decide +kernel) rfl) pa_nil)))))))), ?_⟩
    refine Rd.start (σ' := [some (.int i)]) rfl ?_
    try dsimp only [cxOf, Cx.nox, Cx.wish]
    walk_at "go"
    refine Rd.isi (b := true) (.base (.int i)) (kit_ty (by decide +kernel)) ?_
    walk_at "go"
    refine Rd.isi (b := false) (.base (.int i)) (kit_ty (by decide +kernel)) ?_
    walk_at "go"
    exact q
theorem num_go {H : Hp} {i : Int} {Q : VK} {E : XK} (q : Q (.bl true) H) : CALL spNum [.int i] H Q E := ⟨i, rfl, q⟩
def spLArch : Sp := fun vs H Q _ => ∃ u : Int, vs = [.int u] ∧ 0 ≤ u ∧ u ≤ 324000 ∧ Q (.int (arch u)) H
set_option maxHeartbeats 4000000 in
theorem ok_larch (T : Txt K mg) : ∃ (f : Addr) (fd : FuncData), FnOk P w K mg base CX0 1 f fd ["u"] spLArch ∧ mg "_law_arch" = some (.ref f) ∧ PySem.W.keepIn K (.ref f) = true ∧ L2.Binds K fd ["u"] [] := by
  obtain ⟨f, fd, F, g, bi⟩ := T.d__law_arch
  refine ⟨f, fd, ?_, g, F.kp, bi⟩
  refine F.ok sc__law_arch (fun vs H Q E h => ?_) (fun cdv A outer s H vs Q E hr h => ?_)
  · obtain ⟨u, rfl, _⟩ := h; rfl
  · obtain ⟨u, rfl, h0, h1, q⟩ := h
    refine ⟨_, (pss_cons (ps_set (i := 1) sc__law_arch.nd rfl (by first | exact Or.inl rfl | exact Or.inr rfl) pe_int)
      (pss_one (ps_ret (pe_op op_fdivW (pe_op op_mul (pe_op op_mul pe_int (pv 0)) (pe_op op_sub (pe_op op_mul (pe_op op_mul pe_int (pv 1)) (pv 1)) (pe_op op_mul (pv 0) (pv 0)))) (pe_op op_mul (pe_op op_mul (pe_op op_mul pe_int (pv 1)) (pv 1)) (pv 1)))))), ?_⟩
    refine Rd.start (σ' := [some (.int u), none]) rfl ?_
    try dsimp only [cxOf, Cx.nox, Cx.wish]
    walk_at "go"
    rw [← arch_due] at q
    exact q
theorem larch_go {H : Hp} {u : Int} {Q : VK} {E : XK} (h0 : 0 ≤ u) (h1 : u ≤ 324000) (q : Q (.int (arch u)) H) : CALL spLArch [.int u] H Q E := ⟨u, rfl, h0, h1, q⟩
set_option maxHeartbeats 4000000 in
theorem ok_lwave (T : Txt K mg) : ∃ (f : Addr) (fd : FuncData), FnOk P w K mg base CX0 2 f fd ["x"] spWave ∧ mg "_law_wave" = some (.ref f) ∧ PySem.W.keepIn K (.ref f) = true ∧ L2.Binds K fd ["x"] [] := by
  obtain ⟨f, fd, F, g, bi⟩ := T.d__law_wave
  obtain ⟨f__law_arch, fd__law_arch, G__law_arch, g__law_arch, kp__law_arch, b__law_arch⟩ := ok_larch (P := P) (w := w) (base := base) T
  refine ⟨f, fd, ?_, g, F.kp, bi⟩
  refine F.ok sc__law_wave (fun vs H Q E h => ?_) (fun cdv A outer s H vs Q E hr h => ?_)
  · obtain ⟨x, rfl, _⟩ := h; rfl
  · obtain ⟨x, rfl, q⟩ := h
    refine ⟨_, (pss_cons (ps_set (i := 0) sc__law_wave.nd rfl (by first | exact Or.inl rfl | exact Or.inr rfl) (pe_op op_mod (pe_callTy call_int1 (by rfl) T.m_int (by decide +kernel) (pa_cons (pv 0) pa_nil)) pe_int))
      (pss_cons (ps_if (pt_cmpR op_ge (pv 0) pe_int (nomark _)) (pss_one (ps_ret (pe_un un_neg (pe_call G__law_arch (hr.mono (by omega)) (by rfl) g__law_arch kp__law_arch b__law_arch .nil pass0 (pa_cons (pe_callB (call_min2 rfl) (by rfl) T.m_min (by decide +kernel) (pa_cons (pe_op op_sub (pv 0) pe_int) (pa_cons (pe_op op_sub pe_int (pv 0)) pa_nil))) pa_nil))))) pss_nil)
      (pss_one (ps_ret (pe_call G__law_arch (hr.mono (by omega)) (by rfl) g__law_arch kp__law_arch b__law_arch .nil pass0 (pa_cons (pe_callB (call_min2 rfl) (by rfl) T.m_min (by decide +kernel) (pa_cons (pv 0) (pa_cons (pe_op op_sub pe_int (pv 0)) pa_nil))) pa_nil)))))), ?_⟩
    refine Rd.start (σ' := [some (.int x)]) rfl ?_
    try dsimp only [cxOf, Cx.nox, Cx.wish]
    have h0 : 0 ≤ x % 1296000 := Int.emod_nonneg _ (by decide)
    have h1 : x % 1296000 < 1296000 := Int.emod_lt_of_pos _ (by decide)
    rw [← lw_wave] at q
    unfold lw at q
    by_cases a : x % 1296000 ≥ 648000
    · rw [if_pos a] at q
      walk_at "go"
      refine larch_go (by split <;> omega) (by split <;> omega) ?_
      walk_at "go"
      exact q
    · rw [if_neg a] at q
      walk_at "go"
      refine larch_go (by split <;> omega) (by split <;> omega) ?_
      exact q
end

/-! ### what an expression means -/
structure Den where
  val : Int → Int
  most : Int
  far : Int → Int
def rup (n d : Int) : Int := -(-n / d)
def ab (i : Int) : Int := if i < 0 then -i else i
def cap (top far : Int) : Int := if 2 * top < far then 2 * top else far
def wfar (d : Int) : Int := if d = 0 then 0 else 125 * d / 27 + 1
def dTurn (s i d : Int) : Den := ⟨fun t => s + i * t / d, 0, fun k => rup (ab i * k) d⟩
def dMoved (a v : Den) : Den := ⟨fun t => a.val t + v.val t, 0, fun k => a.far k + v.far k⟩
def dMinus (a b : Den) : Den := ⟨fun t => a.val t - b.val t, 0, fun k => a.far k + b.far k⟩
def dNum (i : Int) : Den := ⟨fun _ => i, ab i, fun _ => cap (ab i) 0⟩
def dWave (a : Den) : Den := ⟨fun t => wave (a.val t), 1000000, fun k => cap 1000000 (wfar (a.far k))⟩
def dSum (vs : List Den) : Den := ⟨fun t => (vs.map fun v => v.val t).sum, (vs.map fun v => v.most).sum, fun k => cap (vs.map fun v => v.most).sum (vs.map fun v => v.far k).sum⟩
def dShare (v : Den) (i d : Int) : Den := ⟨fun t => v.val t * i / d, rup (v.most * ab i) d, fun k => cap (rup (v.most * ab i) d) (rup (v.far k * ab i) d)⟩
def dProd (v w : Den) (d : Int) : Den := ⟨fun t => v.val t * w.val t / d, rup (v.most * w.most) d, fun k => cap (rup (v.most * w.most) d) (rup (v.most * w.far k + w.most * v.far k) d)⟩
def dLater (v : Den) (i : Int) : Den := ⟨fun t => v.val (t + i), v.most, v.far⟩
def Lim (i : Int) : Prop := -1000000000000 ≤ i ∧ i ≤ 1000000000000
def Dv (d : Int) : Prop := 1 ≤ d ∧ d ≤ 1000000000000
/-- the value v is, in the heap H, an expression at most n deep (true: a quantity, false: an angle) with the meaning D -/
inductive Ex (H : Hp) : Nat → Bool → V → Den → Prop
  | qnum {n p i} (h : H p = some (.tup [.str "number", .int i])) (l : Lim i) : Ex H (n + 1) true (.ref p) (dNum i)
  | qwave {n p b g} (h : H p = some (.tup [.str "wave", b])) (l : Ex H n false b g) : Ex H (n + 1) true (.ref p) (dWave g)
  | qsum {n p xs gs} (h : H p = some (.tup (.str "sum" :: xs))) (e : xs.length = gs.length) (l0 : 0 < xs.length) (l1 : xs.length ≤ 3) (l : ∀ (i : Nat) x g, xs[i]? = some x → gs[i]? = some g → Ex H n true x g) : Ex H (n + 1) true (.ref p) (dSum gs)
  | qshare {n p b g i d} (h : H p = some (.tup [.str "share", b, .int i, .int d])) (l : Ex H n true b g) (li : Lim i) (ld : Dv d) : Ex H (n + 1) true (.ref p) (dShare g i d)
  | qprod {n p b c g f d} (h : H p = some (.tup [.str "product", b, c, .int d])) (l : Ex H n true b g) (l2 : Ex H n true c f) (ld : Dv d) : Ex H (n + 1) true (.ref p) (dProd g f d)
  | qlater {n p b g i} (h : H p = some (.tup [.str "later", b, .int i])) (l : Ex H n true b g) (li : Lim i) : Ex H (n + 1) true (.ref p) (dLater g i)
  | aturn {n p s i d} (h : H p = some (.tup [.str "turning", .int s, .int i, .int d])) (ls : Lim s) (li : Lim i) (ld : Dv d) : Ex H (n + 1) false (.ref p) (dTurn s i d)
  | amoved {n p b c g f} (h : H p = some (.tup [.str "moved", b, c])) (l : Ex H n false b g) (l2 : Ex H n true c f) : Ex H (n + 1) false (.ref p) (dMoved g f)
  | aminus {n p b c g f} (h : H p = some (.tup [.str "minus", b, c])) (l : Ex H n false b g) (l2 : Ex H n false c f) : Ex H (n + 1) false (.ref p) (dMinus g f)
def TupSub (H H' : Hp) : Prop := ∀ p xs, H p = some (.tup xs) → H' p = some (.tup xs)
theorem Ex.sub {H H' : Hp} (s : TupSub H H') {n : Nat} {k : Bool} {v : V} {D : Den} (h : Ex H n k v D) : Ex H' n k v D := by
  induction h with
  | qnum h l => exact .qnum (s _ _ h) l
  | qwave h l ih => exact .qwave (s _ _ h) ih
  | qsum h e l0 l1 l ih => exact .qsum (s _ _ h) e l0 l1 ih
  | qshare h l li ld ih => exact .qshare (s _ _ h) ih li ld
  | qprod h l l2 ld ih ih2 => exact .qprod (s _ _ h) ih ih2 ld
  | qlater h l li ih => exact .qlater (s _ _ h) ih li
  | aturn h ls li ld => exact .aturn (s _ _ h) ls li ld
  | amoved h l l2 ih ih2 => exact .amoved (s _ _ h) ih ih2
  | aminus h l l2 ih ih2 => exact .aminus (s _ _ h) ih ih2
theorem Ex.up {H : Hp} {n : Nat} {k : Bool} {v : V} {D : Den} (h : Ex H n k v D) : Ex H (n + 1) k v D := by
  induction h with
  | qnum h l => exact .qnum h l
  | qwave h l ih => exact .qwave h ih
  | qsum h e l0 l1 l ih => exact .qsum h e l0 l1 ih
  | qshare h l li ld ih => exact .qshare h ih li ld
  | qprod h l l2 ld ih ih2 => exact .qprod h ih ih2 ld
  | qlater h l li ih => exact .qlater h ih li
  | aturn h ls li ld => exact .aturn h ls li ld
  | amoved h l l2 ih ih2 => exact .amoved h ih ih2
  | aminus h l l2 ih ih2 => exact .aminus h ih ih2
theorem TupSub.same {H H' : Hp} (s : Same H H') : TupSub H H' := fun p _ h => s p _ h
theorem TupSub.but {H H' : Hp} {d cc : Addr} (S : DrawS H d cc) (s : Rd.But d H H') : TupSub H H' := fun p _ h => s p _ (S.neT h) h
/-! sizes -/
def bits : Nat → Nat
  | 0 => 0
  | n + 1 => 2 * bits n + 84
theorem two_bits (n : Nat) : (1 : Int) ≤ 2 ^ bits n := by
  have : 0 < (2 : Nat) ^ bits n := Nat.pow_pos (by decide)
  have e : ((2 ^ bits n : Nat) : Int) = (2 : Int) ^ bits n := by rw [Int.natCast_pow]; rfl
  omega
theorem ediv_size {a d : Int} (h : 1 ≤ d) {B : Int} (hB : 0 ≤ B) (h1 : -B ≤ a) (h2 : a ≤ B) : -B ≤ a / d ∧ a / d ≤ B := by
  constructor
  · have : -B ≤ a / d ↔ -B * d ≤ a := Int.le_ediv_iff_mul_le (by omega)
    rw [this]
    have : B * 1 ≤ B * d := Int.mul_le_mul_of_nonneg_left h hB
    rw [Int.neg_mul]
    omega
  · by_cases ha : 0 ≤ a
    · exact Int.le_trans (Int.ediv_le_self _ ha) h2
    · have : a / d < 0 := Int.ediv_neg_of_neg_of_pos (by omega) (by omega)
      omega
theorem mul_size {a b A B : Int} (h1 : -A ≤ a) (h2 : a ≤ A) (h3 : -B ≤ b) (h4 : b ≤ B) : -(A * B) ≤ a * b ∧ a * b ≤ A * B := by
  have hA : 0 ≤ A := by omega
  have hB : 0 ≤ B := by omega
  have e : (a * b).natAbs ≤ (A * B).natAbs := by
    rw [Int.natAbs_mul, Int.natAbs_mul]
    exact Nat.mul_le_mul (by omega) (by omega)
  have e2 : ((A * B).natAbs : Int) = A * B := Int.natAbs_of_nonneg (Int.mul_nonneg hA hB)
  omega
theorem bits_up (n : Nat) : (2 : Int) ^ bits (n + 1) = 2 ^ bits n * 2 ^ bits n * 19342813113834066795298816 := by
  show (2 : Int) ^ (2 * bits n + 84) = _
  rw [Int.pow_add, show 2 * bits n = bits n + bits n by omega, Int.pow_add]
  rfl
theorem bits_le {n : Nat} {z c : Int} (hc : 0 ≤ c) (hc2 : c ≤ 19342813113834066795298816) (h1 : -(2 ^ bits n * c) ≤ z) (h2 : z ≤ 2 ^ bits n * c) : -(2 ^ bits (n + 1)) ≤ z ∧ z ≤ 2 ^ bits (n + 1) := by
  rw [bits_up]
  have b := two_bits n
  have h3 : 2 ^ bits n * c ≤ 2 ^ bits n * 19342813113834066795298816 := Int.mul_le_mul_of_nonneg_left hc2 (by omega)
  have h4 : (2 : Int) ^ bits n * 1 ≤ 2 ^ bits n * 2 ^ bits n := Int.mul_le_mul_of_nonneg_left b (by omega)
  have h5 : 2 ^ bits n * 19342813113834066795298816 ≤ 2 ^ bits n * 2 ^ bits n * (19342813113834066795298816 : Int) := Int.mul_le_mul_of_nonneg_right (by omega) (by decide)
  omega
theorem Ex.size {H : Hp} {n : Nat} {k : Bool} {v : V} {D : Den} (h : Ex H n k v D) : k = true → ∀ t, -(2 ^ bits n) ≤ D.val t ∧ D.val t ≤ 2 ^ bits n := by
  induction h with
  | @qnum n p i h l =>
    intro _ t
    have b := two_bits n
    obtain ⟨l1, l2⟩ := l
    have h3 : (1 : Int) * 1000000000000 ≤ 2 ^ bits n * 1000000000000 := Int.mul_le_mul_of_nonneg_right b (by decide)
    exact bits_le (n := n) (c := 1000000000000) (by decide) (by decide) (show -(2 ^ bits n * 1000000000000) ≤ i by omega) (show i ≤ 2 ^ bits n * 1000000000000 by omega)
  | @qwave n p b g h l ih =>
    intro _ t
    have b := two_bits n
    have m := wave_most (g.val t)
    have h3 : (1 : Int) * 1000000 ≤ 2 ^ bits n * 1000000 := Int.mul_le_mul_of_nonneg_right b (by decide)
    exact bits_le (n := n) (c := 1000000) (by decide) (by decide) (show -(2 ^ bits n * 1000000) ≤ wave (g.val t) by omega) (show wave (g.val t) ≤ 2 ^ bits n * 1000000 by omega)
  | @qsum n p xs gs h e l0 l1 l ih =>
    intro _ t
    have b := two_bits n
    have each : ∀ g ∈ gs, -(2 ^ bits n) ≤ g.val t ∧ g.val t ≤ 2 ^ bits n := by
      intro g hg
      obtain ⟨i, hi, rfl⟩ := List.getElem_of_mem hg
      exact ih i xs[i] gs[i] (List.getElem?_eq_getElem (by omega)) (List.getElem?_eq_getElem hi) rfl t
    have all : ∀ (gs : List Den), (∀ g ∈ gs, -(2 ^ bits n) ≤ g.val t ∧ g.val t ≤ 2 ^ bits n) → -(2 ^ bits n * (gs.length : Int)) ≤ (gs.map fun g => g.val t).sum ∧ (gs.map fun g => g.val t).sum ≤ 2 ^ bits n * (gs.length : Int) := by
      intro gs
      induction gs with
      | nil => intro _; simp
      | cons g r ihr =>
        intro hg
        have h1 := hg g (List.mem_cons_self ..)
        have h2 := ihr fun x hx => hg x (List.mem_cons_of_mem _ hx)
        rw [List.map_cons, List.sum_cons, List.length_cons]
        have e : (2 : Int) ^ bits n * ((r.length + 1 : Nat) : Int) = 2 ^ bits n * (r.length : Int) + 2 ^ bits n := by
          rw [show ((r.length + 1 : Nat) : Int) = (r.length : Int) + 1 by omega, Int.mul_add, Int.mul_one]
        omega
    have q := all gs each
    exact bits_le (n := n) (c := gs.length) (by omega) (by omega) q.1 q.2
  | @qshare n p b g i d h l li ld ih =>
    intro _ t
    obtain ⟨l1, l2⟩ := li
    have q := ih rfl t
    have m := mul_size q.1 q.2 l1 l2
    have b := two_bits n
    have w := ediv_size ld.1 (B := 2 ^ bits n * 1000000000000) (by omega) m.1 m.2
    exact bits_le (n := n) (c := 1000000000000) (by decide) (by decide) w.1 w.2
  | @qprod n p b c g f d h l l2 ld ih ih2 =>
    intro _ t
    have q := ih rfl t
    have r := ih2 rfl t
    have m := mul_size q.1 q.2 r.1 r.2
    have b := two_bits n
    have hb : 0 ≤ (2 : Int) ^ bits n * 2 ^ bits n := Int.mul_nonneg (by omega) (by omega)
    have w := ediv_size ld.1 hb m.1 m.2
    rw [bits_up]
    have h5 : 2 ^ bits n * 2 ^ bits n * (1 : Int) ≤ 2 ^ bits n * 2 ^ bits n * (19342813113834066795298816 : Int) := Int.mul_le_mul_of_nonneg_left (by decide) hb
    show -(2 ^ bits n * 2 ^ bits n * 19342813113834066795298816) ≤ g.val t * f.val t / d ∧ g.val t * f.val t / d ≤ 2 ^ bits n * 2 ^ bits n * 19342813113834066795298816
    omega
  | @qlater n p b g i h l li ih =>
    intro _ t
    have q := ih rfl (t + i)
    have b := two_bits n
    exact bits_le (n := n) (c := 1) (by decide) (by decide) (show -(2 ^ bits n * 1) ≤ g.val (t + i) by omega) (show g.val (t + i) ≤ 2 ^ bits n * 1 by omega)
  | aturn => intro z; cases z
  | amoved => intro z; cases z
  | aminus => intro z; cases z
theorem bits_small {n : Nat} (h : n ≤ 12) : bits n ≤ 400000 := by
  have m : ∀ a b, a ≤ b → bits a ≤ bits b := by
    intro a b hab
    induction hab with
    | refl => exact Nat.le_refl _
    | step _ ih => exact Nat.le_trans ih (by show _ ≤ 2 * bits _ + 84; omega)
  exact Nat.le_trans (m _ _ h) (by decide)
theorem mulW_of {n : Nat} {a b : Int} (hn : n ≤ 12) (h1 : -(2 ^ bits n) ≤ a) (h2 : a ≤ 2 ^ bits n) (h3 : -(2 ^ bits n) ≤ b) (h4 : b ≤ 2 ^ bits n) : CMulW a b := by
  have s := bits_small hn
  have e : ((2 ^ bits n : Nat) : Int) = (2 : Int) ^ bits n := by rw [Int.natCast_pow]; rfl
  have p : (2 : Nat) ^ (bits n + 1) = 2 * 2 ^ bits n := by rw [Nat.pow_succ]; omega
  have z : 0 < (2 : Nat) ^ bits n := Nat.pow_pos (by decide)
  exact wide_mul (a := bits n + 1) (b := bits n + 1) (by rw [p]; omega) (by rw [p]; omega) (by omega) (by omega) (by omega)

section
open Rd
variable {P : Program} {w : World} {K : PySem.W.Frag} {mg : Str → Option Value} {base : Heap}
def spVal (n : Nat) (k : Bool) : Sp := fun vs H Q _ => ∃ (v : V) (t : Int) (D : Den), vs = [v, .int t] ∧ Ex H n k v D ∧ n ≤ 12 ∧ ∀ H', Same H H' → Q (.int (D.val t)) H'
theorem val_go {H : Hp} {n : Nat} {k : Bool} {v : V} {t : Int} {D : Den} {Q : VK} {E : XK} (h : Ex H n k v D) (hn : n ≤ 12) (q : ∀ H', Same H H' → Q (.int (D.val t)) H') : CALL (spVal n k) [v, .int t] H Q E := ⟨v, t, D, rfl, h, hn, q⟩
end

section
open Rd
variable {P : Program} {w : World} {K : PySem.W.Frag} {mg : Str → Option Value} {base : Heap}
set_option maxHeartbeats 8000000 in
theorem ok_value (T0 : Txt K mg) : ∀ n : Nat, (∃ (f : Addr) (fd : FuncData), FnOk P w K mg base CX0 (n + 3) f fd ["q", "t"] (spVal n true) ∧ mg "value" = some (.ref f) ∧ PySem.W.keepIn K (.ref f) = true ∧ L2.Binds K fd ["q", "t"] []) ∧
    (∃ (f : Addr) (fd : FuncData), FnOk P w K mg base CX0 (n + 3) f fd ["a", "t"] (spVal n false) ∧ mg "angle_value" = some (.ref f) ∧ PySem.W.keepIn K (.ref f) = true ∧ L2.Binds K fd ["a", "t"] []) := by
  have T := T0
  obtain ⟨fq, fdq, Fq, gq, bq⟩ := T.d_value
  obtain ⟨fa, fda, Fa, ga, ba⟩ := T.d_angle_value
  obtain ⟨f_wave, fd_wave, G_wave, g_wave, kp_wave, b_wave⟩ := ok_wave (P := P) (w := w) (base := base) T
  intro n
  induction n with
  | zero =>
    exact ⟨⟨fq, fdq, never.imp (fun vs H Q E h => by obtain ⟨v, t, D, _, h, _⟩ := h; cases h), gq, Fq.kp, bq⟩, ⟨fa, fda, never.imp (fun vs H Q E h => by obtain ⟨v, t, D, _, h, _⟩ := h; cases h), ga, Fa.kp, ba⟩⟩
  | succ n ih =>
    obtain ⟨⟨f_value, fd_value, G_value, g_value, kp_value, b_value⟩, ⟨f_angle_value, fd_angle_value, G_angle_value, g_angle_value, kp_angle_value, b_angle_value⟩⟩ := ih
    refine ⟨⟨fq, fdq, ?_, gq, Fq.kp, bq⟩, ⟨fa, fda, ?_, ga, Fa.kp, ba⟩⟩
    · refine Fq.ok sc_value (fun vs H Q E h => ?_) (fun cdv A outer s H vs Q E hr h => ?_)
      · obtain ⟨v, t, D, rfl, _⟩ := h; rfl
      · obtain ⟨v, t, D, rfl, h, hn, q⟩ := h
        refine ⟨_, (pss_cons (ps_set (i := 2) sc_value.nd rfl (by first | exact Or.inl rfl | exact Or.inr rfl) (pe_ix ix_tup (pv 0) pe_int (fun _ _ => rfl)))
      (pss_cons (ps_if (pt_cmpR op_eq (pv 2) pe_str (nomark _)) (pss_one (ps_ret (pe_ix ix_tup (pv 0) pe_int (fun _ _ => rfl)))) pss_nil)
      (pss_cons (ps_if (pt_cmpR op_eq (pv 2) pe_str (nomark _)) (pss_one (ps_ret (pe_call G_wave (hr.mono (by omega)) (by rfl) g_wave kp_wave b_wave .nil pass0 (pa_cons (pe_call G_angle_value (hr.mono (by omega)) (by rfl) g_angle_value kp_angle_value b_angle_value .nil pass0 (pa_cons (pe_ix ix_tup (pv 0) pe_int (fun _ _ => rfl)) (pa_cons (pv 1) pa_nil))) pa_nil)))) pss_nil)
      (pss_cons (ps_if (pt_cmpR op_eq (pv 2) pe_str (nomark _)) (pss_one (ps_ret (pe_callB (cr_sum rfl) (by rfl) T.m_sum (by decide +kernel) (pa_cons (pe_lc (own := [("v", 3)]) (g := gName 3) (tt := tYes) (by rfl) sc_value.nd (pi_tup (pe_slice sl_tup (pv 0) (po_some pe_int) po_none)) (blkOk_by (own := [("v", 3)]) (N := ["q", "t", "word", "v"]) (sc := defScope s_value) (by decide +kernel)) (fun _ _ _ _ _ => (pg_name (i := 3) sc_value.nd rfl (Or.inl rfl))) (fun _ _ _ _ _ => pts_nil) (fun _ _ _ _ _ => (pe_call G_value (hr.mono (by omega)) (by rfl) g_value kp_value b_value .nil pass0 (pa_cons (pv 3) (pa_cons (pv 1) pa_nil))))) pa_nil)))) pss_nil)
      (pss_cons (ps_if (pt_cmpR op_eq (pv 2) pe_str (nomark _)) (pss_one (ps_ret (pe_op op_fdivW (pe_op op_mul (pe_call G_value (hr.mono (by omega)) (by rfl) g_value kp_value b_value .nil pass0 (pa_cons (pe_ix ix_tup (pv 0) pe_int (fun _ _ => rfl)) (pa_cons (pv 1) pa_nil))) (pe_ix ix_tup (pv 0) pe_int (fun _ _ => rfl))) (pe_ix ix_tup (pv 0) pe_int (fun _ _ => rfl))))) pss_nil)
      (pss_cons (ps_if (pt_cmpR op_eq (pv 2) pe_str (nomark _)) (pss_one (ps_ret (pe_op op_fdivW (pe_op op_mulW (pe_call G_value (hr.mono (by omega)) (by rfl) g_value kp_value b_value .nil pass0 (pa_cons (pe_ix ix_tup (pv 0) pe_int (fun _ _ => rfl)) (pa_cons (pv 1) pa_nil))) (pe_call G_value (hr.mono (by omega)) (by rfl) g_value kp_value b_value .nil pass0 (pa_cons (pe_ix ix_tup (pv 0) pe_int (fun _ _ => rfl)) (pa_cons (pv 1) pa_nil)))) (pe_ix ix_tup (pv 0) pe_int (fun _ _ => rfl))))) pss_nil)
      (pss_one (ps_ret (pe_call G_value (hr.mono (by omega)) (by rfl) g_value kp_value b_value .nil pass0 (pa_cons (pe_ix ix_tup (pv 0) pe_int (fun _ _ => rfl)) (pa_cons (pe_op op_add (pv 1) (pe_ix ix_tup (pv 0) pe_int (fun _ _ => rfl))) pa_nil))))))))))), ?_⟩
        refine Rd.start (σ' := [some v, some (.int t), none, none]) rfl ?_
        try dsimp only [cxOf, Cx.nox, Cx.wish]
        cases h with
        | @qnum _ p i h l =>
          walk_at "go"
          exact q _ (Same.refl _)
        | @qwave _ p b g h l =>
          walk_at "go"
          refine val_go l (by omega) fun H1 s1 => ?_
          walk_at "go"
          refine wave_go ?_
          walk_at "go"
          exact q _ s1
        | @qsum _ p xs gs h e l0 l1 l =>
          walk_at "go"
          refine Rd.slT1 (SqT.of h) fun p2 n2 => ?_
          walk_at "go"
          have sp : Same H (upd H p2 (.tup xs)) := Same.put n2
          refine Rd.lctMap (ys := (gs.map fun g => g.val t).map V.int) (σ0 := [some (.ref p), some (.int t), some (.str "sum"), none]) rfl (SqT.of upd_same) (by simp [e]) (by simp; omega) (fun i x y H' N hx hy sm hN => ?_) (fun D H' nD hD sm => ?_)
          · rw [List.map_map, List.getElem?_map] at hy
            obtain ⟨g, hg, rfl⟩ : ∃ g, gs[i]? = some g ∧ V.int (g.val t) = y := by
              cases hz : gs[i]? with
              | none => rw [hz] at hy; cases hy
              | some g => rw [hz] at hy; exact ⟨g, rfl, Option.some.inj hy⟩
            walk_at "go"
            refine val_go ((l i x g hx hg).sub (TupSub.same (sp.trans sm))) (by omega) fun H1 s1 => ?_
            exact hN _ s1
          · walk_at "go"
            refine Rd.sum1 (SqL.of hD) ?_
            walk_at "go"
            exact q _ (sp.trans sm)
        | @qshare _ p b g i d h l li ld =>
          obtain ⟨li1, li2⟩ := li
          obtain ⟨ld1, ld2⟩ := ld
          walk_at "go"
          refine val_go l (by omega) fun H1 s1 => ?_
          have h1 := s1 _ _ h
          walk_at "go"
          exact q _ s1
        | @qprod _ p b c g f d h l l2 ld =>
          obtain ⟨ld1, ld2⟩ := ld
          have z1 := l.size rfl t
          have z2 := l2.size rfl t
          have hW : CMulW (g.val t) (f.val t) := mulW_of (by omega) z1.1 z1.2 z2.1 z2.2
          walk_at "go"
          refine val_go l (by omega) fun H1 s1 => ?_
          have h1 := s1 _ _ h
          walk_at "go"
          refine val_go (l2.sub (TupSub.same s1)) (by omega) fun H2 s2 => ?_
          have h2 := s2 _ _ h1
          walk_at "go"
          exact q _ (s1.trans s2)
        | @qlater _ p b g i h l li =>
          walk_at "go"
          refine val_go l (by omega) fun H1 s1 => ?_
          exact q _ s1
    · refine Fa.ok sc_angle_value (fun vs H Q E h => ?_) (fun cdv A outer s H vs Q E hr h => ?_)
      · obtain ⟨v, t, D, rfl, _⟩ := h; rfl
      · obtain ⟨v, t, D, rfl, h, hn, q⟩ := h
        refine ⟨_, (pss_cons (ps_set (i := 2) sc_angle_value.nd rfl (by first | exact Or.inl rfl | exact Or.inr rfl) (pe_ix ix_tup (pv 0) pe_int (fun _ _ => rfl)))
      (pss_cons (ps_if (pt_cmpR op_eq (pv 2) pe_str (nomark _)) (pss_one (ps_ret (pe_op op_add (pe_ix ix_tup (pv 0) pe_int (fun _ _ => rfl)) (pe_op op_fdivW (pe_op op_mul (pe_ix ix_tup (pv 0) pe_int (fun _ _ => rfl)) (pv 1)) (pe_ix ix_tup (pv 0) pe_int (fun _ _ => rfl)))))) pss_nil)
      (pss_cons (ps_if (pt_cmpR op_eq (pv 2) pe_str (nomark _)) (pss_one (ps_ret (pe_op op_add (pe_call G_angle_value (hr.mono (by omega)) (by rfl) g_angle_value kp_angle_value b_angle_value .nil pass0 (pa_cons (pe_ix ix_tup (pv 0) pe_int (fun _ _ => rfl)) (pa_cons (pv 1) pa_nil))) (pe_call G_value (hr.mono (by omega)) (by rfl) g_value kp_value b_value .nil pass0 (pa_cons (pe_ix ix_tup (pv 0) pe_int (fun _ _ => rfl)) (pa_cons (pv 1) pa_nil)))))) pss_nil)
      (pss_one (ps_ret (pe_op op_sub (pe_call G_angle_value (hr.mono (by omega)) (by rfl) g_angle_value kp_angle_value b_angle_value .nil pass0 (pa_cons (pe_ix ix_tup (pv 0) pe_int (fun _ _ => rfl)) (pa_cons (pv 1) pa_nil))) (pe_call G_angle_value (hr.mono (by omega)) (by rfl) g_angle_value kp_angle_value b_angle_value .nil pass0 (pa_cons (pe_ix ix_tup (pv 0) pe_int (fun _ _ => rfl)) (pa_cons (pv 1) pa_nil))))))))), ?_⟩
        refine Rd.start (σ' := [some v, some (.int t), none]) rfl ?_
        try dsimp only [cxOf, Cx.nox, Cx.wish]
        cases h with
        | @aturn _ p s i d h ls li ld =>
          obtain ⟨li1, li2⟩ := li
          obtain ⟨ld1, ld2⟩ := ld
          walk_at "go"
          exact q _ (Same.refl _)
        | @amoved _ p b c g f h l l2 =>
          walk_at "go"
          refine val_go l (by omega) fun H1 s1 => ?_
          have h1 := s1 _ _ h
          walk_at "go"
          refine val_go (l2.sub (TupSub.same s1)) (by omega) fun H2 s2 => ?_
          have h2 := s2 _ _ h1
          walk_at "go"
          exact q _ (s1.trans s2)
        | @aminus _ p b c g f h l l2 =>
          walk_at "go"
          refine val_go l (by omega) fun H1 s1 => ?_
          have h1 := s1 _ _ h
          walk_at "go"
          refine val_go (l2.sub (TupSub.same s1)) (by omega) fun H2 s2 => ?_
          have h2 := s2 _ _ h1
          walk_at "go"
          exact q _ (s1.trans s2)
end

section
open Rd
variable {P : Program} {w : World} {K : PySem.W.Frag} {mg : Str → Option Value} {base : Heap}
set_option maxHeartbeats 8000000 in
theorem ok__law_value (T0 : Txt K mg) : ∀ n : Nat, (∃ (f : Addr) (fd : FuncData), FnOk P w K mg base CX0 (n + 3) f fd ["q", "t"] (spVal n true) ∧ mg "_law_value" = some (.ref f) ∧ PySem.W.keepIn K (.ref f) = true ∧ L2.Binds K fd ["q", "t"] []) ∧
    (∃ (f : Addr) (fd : FuncData), FnOk P w K mg base CX0 (n + 3) f fd ["a", "t"] (spVal n false) ∧ mg "_law_angle_at" = some (.ref f) ∧ PySem.W.keepIn K (.ref f) = true ∧ L2.Binds K fd ["a", "t"] []) := by
  have T := T0
  obtain ⟨fq, fdq, Fq, gq, bq⟩ := T.d__law_value
  obtain ⟨fa, fda, Fa, ga, ba⟩ := T.d__law_angle_at
  obtain ⟨f__law_wave, fd__law_wave, G__law_wave, g__law_wave, kp__law_wave, b__law_wave⟩ := ok_lwave (P := P) (w := w) (base := base) T
  intro n
  induction n with
  | zero =>
    exact ⟨⟨fq, fdq, never.imp (fun vs H Q E h => by obtain ⟨v, t, D, _, h, _⟩ := h; cases h), gq, Fq.kp, bq⟩, ⟨fa, fda, never.imp (fun vs H Q E h => by obtain ⟨v, t, D, _, h, _⟩ := h; cases h), ga, Fa.kp, ba⟩⟩
  | succ n ih =>
    obtain ⟨⟨f__law_value, fd__law_value, G__law_value, g__law_value, kp__law_value, b__law_value⟩, ⟨f__law_angle_at, fd__law_angle_at, G__law_angle_at, g__law_angle_at, kp__law_angle_at, b__law_angle_at⟩⟩ := ih
    refine ⟨⟨fq, fdq, ?_, gq, Fq.kp, bq⟩, ⟨fa, fda, ?_, ga, Fa.kp, ba⟩⟩
    · refine Fq.ok sc__law_value (fun vs H Q E h => ?_) (fun cdv A outer s H vs Q E hr h => ?_)
      · obtain ⟨v, t, D, rfl, _⟩ := h; rfl
      · obtain ⟨v, t, D, rfl, h, hn, q⟩ := h
        refine ⟨_, (pss_cons (ps_if (pt_cmpR op_eq (pe_ix ix_tup (pv 0) pe_int (fun _ _ => rfl)) pe_str (nomark _)) (pss_one (ps_ret (pe_ix ix_tup (pv 0) pe_int (fun _ _ => rfl)))) pss_nil)
      (pss_cons (ps_if (pt_cmpR op_eq (pe_ix ix_tup (pv 0) pe_int (fun _ _ => rfl)) pe_str (nomark _)) (pss_one (ps_ret (pe_call G__law_wave (hr.mono (by omega)) (by rfl) g__law_wave kp__law_wave b__law_wave .nil pass0 (pa_cons (pe_call G__law_angle_at (hr.mono (by omega)) (by rfl) g__law_angle_at kp__law_angle_at b__law_angle_at .nil pass0 (pa_cons (pe_ix ix_tup (pv 0) pe_int (fun _ _ => rfl)) (pa_cons (pv 1) pa_nil))) pa_nil)))) pss_nil)
      (pss_cons (ps_if (pt_cmpR op_eq (pe_ix ix_tup (pv 0) pe_int (fun _ _ => rfl)) pe_str (nomark _)) (pss_one (ps_ret (pe_callB (cr_sum rfl) (by rfl) T.m_sum (by decide +kernel) (pa_cons (pe_lc (own := [("part", 2)]) (g := gName 2) (tt := tYes) (by rfl) sc__law_value.nd (pi_tup (pe_slice sl_tup (pv 0) (po_some pe_int) po_none)) (blkOk_by (own := [("part", 2)]) (N := ["q", "t", "part"]) (sc := defScope s__law_value) (by decide +kernel)) (fun _ _ _ _ _ => (pg_name (i := 2) sc__law_value.nd rfl (Or.inl rfl))) (fun _ _ _ _ _ => pts_nil) (fun _ _ _ _ _ => (pe_call G__law_value (hr.mono (by omega)) (by rfl) g__law_value kp__law_value b__law_value .nil pass0 (pa_cons (pv 2) (pa_cons (pv 1) pa_nil))))) pa_nil)))) pss_nil)
      (pss_cons (ps_if (pt_cmpR op_eq (pe_ix ix_tup (pv 0) pe_int (fun _ _ => rfl)) pe_str (nomark _)) (pss_one (ps_ret (pe_op op_fdivW (pe_op op_mul (pe_call G__law_value (hr.mono (by omega)) (by rfl) g__law_value kp__law_value b__law_value .nil pass0 (pa_cons (pe_ix ix_tup (pv 0) pe_int (fun _ _ => rfl)) (pa_cons (pv 1) pa_nil))) (pe_ix ix_tup (pv 0) pe_int (fun _ _ => rfl))) (pe_ix ix_tup (pv 0) pe_int (fun _ _ => rfl))))) pss_nil)
      (pss_cons (ps_if (pt_cmpR op_eq (pe_ix ix_tup (pv 0) pe_int (fun _ _ => rfl)) pe_str (nomark _)) (pss_one (ps_ret (pe_op op_fdivW (pe_op op_mulW (pe_call G__law_value (hr.mono (by omega)) (by rfl) g__law_value kp__law_value b__law_value .nil pass0 (pa_cons (pe_ix ix_tup (pv 0) pe_int (fun _ _ => rfl)) (pa_cons (pv 1) pa_nil))) (pe_call G__law_value (hr.mono (by omega)) (by rfl) g__law_value kp__law_value b__law_value .nil pass0 (pa_cons (pe_ix ix_tup (pv 0) pe_int (fun _ _ => rfl)) (pa_cons (pv 1) pa_nil)))) (pe_ix ix_tup (pv 0) pe_int (fun _ _ => rfl))))) pss_nil)
      (pss_one (ps_ret (pe_call G__law_value (hr.mono (by omega)) (by rfl) g__law_value kp__law_value b__law_value .nil pass0 (pa_cons (pe_ix ix_tup (pv 0) pe_int (fun _ _ => rfl)) (pa_cons (pe_op op_add (pv 1) (pe_ix ix_tup (pv 0) pe_int (fun _ _ => rfl))) pa_nil)))))))))), ?_⟩
        refine Rd.start (σ' := [some v, some (.int t), none]) rfl ?_
        try dsimp only [cxOf, Cx.nox, Cx.wish]
        cases h with
        | @qnum _ p i h l =>
          walk_at "go"
          exact q _ (Same.refl _)
        | @qwave _ p b g h l =>
          walk_at "go"
          refine val_go l (by omega) fun H1 s1 => ?_
          walk_at "go"
          refine wave_go ?_
          walk_at "go"
          exact q _ s1
        | @qsum _ p xs gs h e l0 l1 l =>
          walk_at "go"
          refine Rd.slT1 (SqT.of h) fun p2 n2 => ?_
          walk_at "go"
          have sp : Same H (upd H p2 (.tup xs)) := Same.put n2
          refine Rd.lctMap (ys := (gs.map fun g => g.val t).map V.int) (σ0 := [some (.ref p), some (.int t), none]) rfl (SqT.of upd_same) (by simp [e]) (by simp; omega) (fun i x y H' N hx hy sm hN => ?_) (fun D H' nD hD sm => ?_)
          · rw [List.map_map, List.getElem?_map] at hy
            obtain ⟨g, hg, rfl⟩ : ∃ g, gs[i]? = some g ∧ V.int (g.val t) = y := by
              cases hz : gs[i]? with
              | none => rw [hz] at hy; cases hy
              | some g => rw [hz] at hy; exact ⟨g, rfl, Option.some.inj hy⟩
            walk_at "go"
            refine val_go ((l i x g hx hg).sub (TupSub.same (sp.trans sm))) (by omega) fun H1 s1 => ?_
            exact hN _ s1
          · walk_at "go"
            refine Rd.sum1 (SqL.of hD) ?_
            walk_at "go"
            exact q _ (sp.trans sm)
        | @qshare _ p b g i d h l li ld =>
          obtain ⟨li1, li2⟩ := li
          obtain ⟨ld1, ld2⟩ := ld
          walk_at "go"
          refine val_go l (by omega) fun H1 s1 => ?_
          have h1 := s1 _ _ h
          walk_at "go"
          exact q _ s1
        | @qprod _ p b c g f d h l l2 ld =>
          obtain ⟨ld1, ld2⟩ := ld
          have z1 := l.size rfl t
          have z2 := l2.size rfl t
          have hW : CMulW (g.val t) (f.val t) := mulW_of (by omega) z1.1 z1.2 z2.1 z2.2
          walk_at "go"
          refine val_go l (by omega) fun H1 s1 => ?_
          have h1 := s1 _ _ h
          walk_at "go"
          refine val_go (l2.sub (TupSub.same s1)) (by omega) fun H2 s2 => ?_
          have h2 := s2 _ _ h1
          walk_at "go"
          exact q _ (s1.trans s2)
        | @qlater _ p b g i h l li =>
          walk_at "go"
          refine val_go l (by omega) fun H1 s1 => ?_
          exact q _ s1
    · refine Fa.ok sc__law_angle_at (fun vs H Q E h => ?_) (fun cdv A outer s H vs Q E hr h => ?_)
      · obtain ⟨v, t, D, rfl, _⟩ := h; rfl
      · obtain ⟨v, t, D, rfl, h, hn, q⟩ := h
        refine ⟨_, (pss_cons (ps_if (pt_cmpR op_eq (pe_ix ix_tup (pv 0) pe_int (fun _ _ => rfl)) pe_str (nomark _)) (pss_one (ps_ret (pe_op op_add (pe_ix ix_tup (pv 0) pe_int (fun _ _ => rfl)) (pe_op op_fdivW (pe_op op_mul (pe_ix ix_tup (pv 0) pe_int (fun _ _ => rfl)) (pv 1)) (pe_ix ix_tup (pv 0) pe_int (fun _ _ => rfl)))))) pss_nil)
      (pss_cons (ps_if (pt_cmpR op_eq (pe_ix ix_tup (pv 0) pe_int (fun _ _ => rfl)) pe_str (nomark _)) (pss_one (ps_ret (pe_op op_add (pe_call G__law_angle_at (hr.mono (by omega)) (by rfl) g__law_angle_at kp__law_angle_at b__law_angle_at .nil pass0 (pa_cons (pe_ix ix_tup (pv 0) pe_int (fun _ _ => rfl)) (pa_cons (pv 1) pa_nil))) (pe_call G__law_value (hr.mono (by omega)) (by rfl) g__law_value kp__law_value b__law_value .nil pass0 (pa_cons (pe_ix ix_tup (pv 0) pe_int (fun _ _ => rfl)) (pa_cons (pv 1) pa_nil)))))) pss_nil)
      (pss_one (ps_ret (pe_op op_sub (pe_call G__law_angle_at (hr.mono (by omega)) (by rfl) g__law_angle_at kp__law_angle_at b__law_angle_at .nil pass0 (pa_cons (pe_ix ix_tup (pv 0) pe_int (fun _ _ => rfl)) (pa_cons (pv 1) pa_nil))) (pe_call G__law_angle_at (hr.mono (by omega)) (by rfl) g__law_angle_at kp__law_angle_at b__law_angle_at .nil pass0 (pa_cons (pe_ix ix_tup (pv 0) pe_int (fun _ _ => rfl)) (pa_cons (pv 1) pa_nil)))))))), ?_⟩
        refine Rd.start (σ' := [some v, some (.int t)]) rfl ?_
        try dsimp only [cxOf, Cx.nox, Cx.wish]
        cases h with
        | @aturn _ p s i d h ls li ld =>
          obtain ⟨li1, li2⟩ := li
          obtain ⟨ld1, ld2⟩ := ld
          walk_at "go"
          exact q _ (Same.refl _)
        | @amoved _ p b c g f h l l2 =>
          walk_at "go"
          refine val_go l (by omega) fun H1 s1 => ?_
          have h1 := s1 _ _ h
          walk_at "go"
          refine val_go (l2.sub (TupSub.same s1)) (by omega) fun H2 s2 => ?_
          have h2 := s2 _ _ h1
          walk_at "go"
          exact q _ (s1.trans s2)
        | @aminus _ p b c g f h l l2 =>
          walk_at "go"
          refine val_go l (by omega) fun H1 s1 => ?_
          have h1 := s1 _ _ h
          walk_at "go"
          refine val_go (l2.sub (TupSub.same s1)) (by omega) fun H2 s2 => ?_
          have h2 := s2 _ _ h1
          walk_at "go"
          exact q _ (s1.trans s2)
end

section
open Rd
variable {P : Program} {w : World} {K : PySem.W.Frag} {mg : Str → Option Value} {base : Heap}
def spNumb : Sp := fun vs H Q _ => ∃ d cc : Addr, vs = [.ref d] ∧ DrawS H d cc ∧ ∀ i H', Lim i → DrawS H' d cc → But d H H' → Q (.int i) H'
set_option maxHeartbeats 4000000 in
theorem ok_numb (T : Txt K mg) : ∃ (f : Addr) (fd : FuncData), FnOk P w K mg base CX0 3 f fd ["state"] spNumb ∧ mg "_law_number" = some (.ref f) ∧ PySem.W.keepIn K (.ref f) = true ∧ L2.Binds K fd ["state"] [] := by
  obtain ⟨f, fd, F, g, bi⟩ := T.d__law_number
  obtain ⟨f__law_draw, fd__law_draw, G__law_draw, g__law_draw, kp__law_draw, b__law_draw⟩ := ok_draw (P := P) (w := w) (base := base) T
  obtain ⟨f__law_pick, fd__law_pick, G__law_pick, g__law_pick, kp__law_pick, b__law_pick⟩ := ok_pick (P := P) (w := w) (base := base) T
  refine ⟨f, fd, ?_, g, F.kp, bi⟩
  refine F.ok sc__law_number (fun vs H Q E h => ?_) (fun cdv A outer s H vs Q E hr h => ?_)
  · obtain ⟨d, cc, rfl, _⟩ := h; rfl
  · obtain ⟨d, cc, rfl, S1, q⟩ := h
    refine ⟨_, (pss_one (ps_ret (pe_op op_mul (pe_call G__law_pick (hr.mono (by omega)) (by rfl) g__law_pick kp__law_pick b__law_pick .nil pass0 (pa_cons (pv 0) (pa_cons (pe_lst (pa_cons (pe_un un_neg pe_int) (pa_cons pe_int pa_nil))) pa_nil))) (pe_call G__law_draw (hr.mono (by omega)) (by rfl) g__law_draw kp__law_draw b__law_draw .nil pass0 (pa_cons (pv 0) (pa_cons (pe_call G__law_pick (hr.mono (by omega)) (by rfl) g__law_pick kp__law_pick b__law_pick .nil pass0 (pa_cons (pv 0) (pa_cons (pe_lst (pa_cons pe_int (pa_cons pe_int (pa_cons (pe_op op_pow pe_int pe_int) (pa_cons (pe_op op_mul pe_int (pe_op op_pow pe_int pe_int)) (pa_cons (pe_op op_add (pe_op op_pow pe_int pe_int) pe_int) pa_nil)))))) pa_nil))) pa_nil)))))), ?_⟩
    refine Rd.start (σ' := [some (.ref d)]) rfl ?_
    try dsimp only [cxOf, Cx.nox, Cx.wish]
    walk_at "go"
    refine pickI [-1, 1] (-1) 1 S1 rfl (by decide) (by decide) (by decide) fun k1 H2 m1 l1 u1 S2 B2 => ?_
    walk_at "go"
    refine pickI [3, 100, 10 ^ Int.toNat 6, 2 * 10 ^ Int.toNat 6, 10 ^ Int.toNat 12 + 1] 1 1000000000001 S2 rfl (by decide) (by decide) (by decide) fun k2 H3 _ l2 u2 S3 B3 => ?_
    walk_at "go"
    refine draw_go S3 (by omega) (by omega) fun n1 H4 n10 n11 S4 B4 => ?_
    walk_at "go"
    refine q _ _ ?_ S4 ((B2.trans B3).trans B4)
    have e : k1 = -1 ∨ k1 = 1 := by simpa using m1
    constructor <;> rcases e with e | e <;> subst e <;> omega
theorem numb_go {H : Hp} {d cc : Addr} {Q : VK} {E : XK} (S : DrawS H d cc) (q : ∀ i H', Lim i → DrawS H' d cc → But d H H' → Q (.int i) H') : CALL spNumb [.ref d] H Q E := ⟨d, cc, rfl, S, q⟩
def spDivi : Sp := fun vs H Q _ => ∃ d cc : Addr, vs = [.ref d] ∧ DrawS H d cc ∧ ∀ i H', Dv i → DrawS H' d cc → But d H H' → Q (.int i) H'
set_option maxHeartbeats 4000000 in
theorem ok_divi (T : Txt K mg) : ∃ (f : Addr) (fd : FuncData), FnOk P w K mg base CX0 3 f fd ["state"] spDivi ∧ mg "_law_divisor" = some (.ref f) ∧ PySem.W.keepIn K (.ref f) = true ∧ L2.Binds K fd ["state"] [] := by
  obtain ⟨f, fd, F, g, bi⟩ := T.d__law_divisor
  obtain ⟨f__law_draw, fd__law_draw, G__law_draw, g__law_draw, kp__law_draw, b__law_draw⟩ := ok_draw (P := P) (w := w) (base := base) T
  obtain ⟨f__law_pick, fd__law_pick, G__law_pick, g__law_pick, kp__law_pick, b__law_pick⟩ := ok_pick (P := P) (w := w) (base := base) T
  refine ⟨f, fd, ?_, g, F.kp, bi⟩
  refine F.ok sc__law_divisor (fun vs H Q E h => ?_) (fun cdv A outer s H vs Q E hr h => ?_)
  · obtain ⟨d, cc, rfl, _⟩ := h; rfl
  · obtain ⟨d, cc, rfl, S1, q⟩ := h
    refine ⟨_, (pss_one (ps_ret (pe_op op_add pe_int (pe_call G__law_draw (hr.mono (by omega)) (by rfl) g__law_draw kp__law_draw b__law_draw .nil pass0 (pa_cons (pv 0) (pa_cons (pe_call G__law_pick (hr.mono (by omega)) (by rfl) g__law_pick kp__law_pick b__law_pick .nil pass0 (pa_cons (pv 0) (pa_cons (pe_lst (pa_cons pe_int (pa_cons pe_int (pa_cons (pe_op op_pow pe_int pe_int) (pa_cons (pe_op op_pow pe_int pe_int) pa_nil))))) pa_nil))) pa_nil)))))), ?_⟩
    refine Rd.start (σ' := [some (.ref d)]) rfl ?_
    try dsimp only [cxOf, Cx.nox, Cx.wish]
    walk_at "go"
    refine pickI [3, 1000, 10 ^ Int.toNat 6, 10 ^ Int.toNat 12] 1 1000000000000 S1 rfl (by decide) (by decide) (by decide) fun k2 H3 _ l2 u2 S3 B3 => ?_
    walk_at "go"
    refine draw_go S3 (by omega) (by omega) fun n1 H4 n10 n11 S4 B4 => ?_
    walk_at "go"
    exact q _ _ ⟨by omega, by omega⟩ S4 (B3.trans B4)
theorem divi_go {H : Hp} {d cc : Addr} {Q : VK} {E : XK} (S : DrawS H d cc) (q : ∀ i H', Dv i → DrawS H' d cc → But d H H' → Q (.int i) H') : CALL spDivi [.ref d] H Q E := ⟨d, cc, rfl, S, q⟩
def ia (k : Int) : Nat := if k = 0 then 1 else k.toNat + 2
def spGenA (m : Nat) : Sp := fun vs H Q _ => ∃ (d cc : Addr) (k : Int), vs = [.ref d, .int k] ∧ 0 ≤ k ∧ k < m ∧ DrawS H d cc ∧ ∀ v D H', Ex H' (ia k) false v D → DrawS H' d cc → But d H H' → Q v H'
def spGenQ (m : Nat) : Sp := fun vs H Q _ => ∃ (d cc : Addr) (k : Int), vs = [.ref d, .int k] ∧ 0 ≤ k ∧ k < m ∧ DrawS H d cc ∧ ∀ v D H', Ex H' (k.toNat + 2) true v D → DrawS H' d cc → But d H H' → Q v H'
theorem genA_go {m : Nat} {H : Hp} {d cc : Addr} {k : Int} {Q : VK} {E : XK} (S : DrawS H d cc) (h0 : 0 ≤ k) (h1 : k < m) (q : ∀ v D H', Ex H' (ia k) false v D → DrawS H' d cc → But d H H' → Q v H') : CALL (spGenA m) [.ref d, .int k] H Q E := ⟨d, cc, k, rfl, h0, h1, S, q⟩
theorem genQ_go {m : Nat} {H : Hp} {d cc : Addr} {k : Int} {Q : VK} {E : XK} (S : DrawS H d cc) (h0 : 0 ≤ k) (h1 : k < m) (q : ∀ v D H', Ex H' (k.toNat + 2) true v D → DrawS H' d cc → But d H H' → Q v H') : CALL (spGenQ m) [.ref d, .int k] H Q E := ⟨d, cc, k, rfl, h0, h1, S, q⟩
/-- a part's index in a whole of k > 0 -/
theorem Ex.partA {H : Hp} {k : Int} {v : V} {D : Den} (h0 : 0 < k) (h : Ex H (ia (k - 1)) false v D) : Ex H (k.toNat + 1) false v D := by
  unfold ia at h
  by_cases e : k - 1 = 0
  · rw [if_pos e] at h
    have e2 : k.toNat = 1 := by omega
    rw [e2]
    exact h.up
  · rw [if_neg e] at h
    have e2 : (k - 1).toNat + 2 = k.toNat + 1 := by omega
    rw [e2] at h
    exact h
theorem Ex.partQ {H : Hp} {k : Int} {v : V} {D : Den} (h0 : 0 < k) (h : Ex H ((k - 1).toNat + 2) true v D) : Ex H (k.toNat + 1) true v D := by
  have e2 : (k - 1).toNat + 2 = k.toNat + 1 := by omega
  rw [e2] at h
  exact h
theorem ia_pos {k : Int} (h : 0 < k) : ia k = k.toNat + 2 := by unfold ia; rw [if_neg (by omega)]
set_option maxHeartbeats 16000000 in
theorem ok_genA (T0 : Txt K mg) (m : Nat) (GQ : ∃ (f : Addr) (fd : FuncData), FnOk P w K mg base CX0 (2 * m + 3) f fd ["state", "deep"] (spGenQ m) ∧ mg "_law_quantity" = some (.ref f) ∧ PySem.W.keepIn K (.ref f) = true ∧ L2.Binds K fd ["state", "deep"] [])
    (GA : ∃ (f : Addr) (fd : FuncData), FnOk P w K mg base CX0 (2 * m + 3) f fd ["state", "deep"] (spGenA m) ∧ mg "_law_angle" = some (.ref f) ∧ PySem.W.keepIn K (.ref f) = true ∧ L2.Binds K fd ["state", "deep"] []) :
    ∃ (f : Addr) (fd : FuncData), FnOk P w K mg base CX0 (2 * m + 4) f fd ["state", "deep"] (spGenA (m + 1)) ∧ mg "_law_angle" = some (.ref f) ∧ PySem.W.keepIn K (.ref f) = true ∧ L2.Binds K fd ["state", "deep"] [] := by
  obtain ⟨f, fd, F, g, bi⟩ := T0.d__law_angle
  have T := T0
  obtain ⟨f__law_draw, fd__law_draw, G__law_draw, g__law_draw, kp__law_draw, b__law_draw⟩ := ok_draw (P := P) (w := w) (base := base) T0
  obtain ⟨f__law_pick, fd__law_pick, G__law_pick, g__law_pick, kp__law_pick, b__law_pick⟩ := ok_pick (P := P) (w := w) (base := base) T0
  obtain ⟨f__law_number, fd__law_number, G__law_number, g__law_number, kp__law_number, b__law_number⟩ := ok_numb (P := P) (w := w) (base := base) T0
  obtain ⟨f__law_angle, fd__law_angle, G__law_angle, g__law_angle, kp__law_angle, b__law_angle⟩ := GA
  obtain ⟨f__law_quantity, fd__law_quantity, G__law_quantity, g__law_quantity, kp__law_quantity, b__law_quantity⟩ := GQ
  refine ⟨f, fd, ?_, g, F.kp, bi⟩
  refine F.ok sc__law_angle (fun vs H Q E h => ?_) (fun cdv A outer s H vs Q E hr h => ?_)
  · obtain ⟨d, cc, k, rfl, _⟩ := h; rfl
  · obtain ⟨d, cc, k, rfl, k0, k1, S, q⟩ := h
    refine ⟨_, (pss_cons (ps_set (i := 2) sc__law_angle.nd rfl (by first | exact Or.inl rfl | exact Or.inr rfl) (pe_ifExp (pt_cmpR op_gt (pv 1) pe_int (nomark _)) (pe_call G__law_draw (hr.mono (by omega)) (by rfl) g__law_draw kp__law_draw b__law_draw .nil pass0 (pa_cons (pv 0) (pa_cons pe_int pa_nil))) pe_int))
      (pss_cons (ps_if (pt_cmpR op_lt (pv 2) pe_int (nomark _)) (pss_cons (ps_set (i := 3) sc__law_angle.nd rfl (by first | exact Or.inl rfl | exact Or.inr rfl) (pe_op op_mul (pe_call G__law_pick (hr.mono (by omega)) (by rfl) g__law_pick kp__law_pick b__law_pick .nil pass0 (pa_cons (pv 0) (pa_cons (pe_lst (pa_cons (pe_un un_neg pe_int) (pa_cons pe_int pa_nil))) pa_nil))) (pe_call G__law_draw (hr.mono (by omega)) (by rfl) g__law_draw kp__law_draw b__law_draw .nil pass0 (pa_cons (pv 0) (pa_cons (pe_call G__law_pick (hr.mono (by omega)) (by rfl) g__law_pick kp__law_pick b__law_pick .nil pass0 (pa_cons (pv 0) (pa_cons (pe_lst (pa_cons pe_int (pa_cons pe_int (pa_cons pe_int (pa_cons (pe_op op_pow pe_int pe_int) pa_nil))))) pa_nil))) pa_nil)))))
      (pss_one (ps_ret (pe_tup (pa_cons pe_str (pa_cons (pe_call G__law_number (hr.mono (by omega)) (by rfl) g__law_number kp__law_number b__law_number .nil pass0 (pa_cons (pv 0) pa_nil)) (pa_cons (pv 3) (pa_cons (pe_call G__law_pick (hr.mono (by omega)) (by rfl) g__law_pick kp__law_pick b__law_pick .nil pass0 (pa_cons (pv 0) (pa_cons (pe_lst (pa_cons pe_int (pa_cons pe_int (pa_cons pe_int (pa_cons pe_int (pa_cons (pe_op op_pow pe_int pe_int) pa_nil)))))) pa_nil))) pa_nil)))))))) pss_nil)
      (pss_cons (ps_if (pt_cmpR op_eq (pv 2) pe_int (nomark _)) (pss_one (ps_ret (pe_tup (pa_cons pe_str (pa_cons (pe_call G__law_angle (hr.mono (by omega)) (by rfl) g__law_angle kp__law_angle b__law_angle .nil pass0 (pa_cons (pv 0) (pa_cons (pe_op op_sub (pv 1) pe_int) pa_nil))) (pa_cons (pe_call G__law_quantity (hr.mono (by omega)) (by rfl) g__law_quantity kp__law_quantity b__law_quantity .nil pass0 (pa_cons (pv 0) (pa_cons (pe_op op_sub (pv 1) pe_int) pa_nil))) pa_nil)))))) pss_nil)
      (pss_one (ps_ret (pe_tup (pa_cons pe_str (pa_cons (pe_call G__law_angle (hr.mono (by omega)) (by rfl) g__law_angle kp__law_angle b__law_angle .nil pass0 (pa_cons (pv 0) (pa_cons (pe_op op_sub (pv 1) pe_int) pa_nil))) (pa_cons (pe_call G__law_angle (hr.mono (by omega)) (by rfl) g__law_angle kp__law_angle b__law_angle .nil pass0 (pa_cons (pv 0) (pa_cons (pe_op op_sub (pv 1) pe_int) pa_nil))) pa_nil))))))))), ?_⟩
    refine Rd.start (σ' := [some (.ref d), some (.int k), none, none]) rfl ?_
    try dsimp only [cxOf, Cx.nox, Cx.wish]
    by_cases kz : 0 < k
    · have ei := ia_pos kz
      rw [ei] at q
      walk_at "go"
      refine draw_go S (by omega) (by omega) fun n1 H1 n10 n11 S1 B1 => ?_
      by_cases a : n1 < 2
      · walk_at "go"
        refine pickI [-1, 1] (-1) 1 S1 rfl (by decide) (by decide) (by decide) fun c1 H2 m2 l2 u2 S2 B2 => ?_
        walk_at "go"
        refine pickI [9, 1000, 400000, 10 ^ Int.toNat 12] 1 1000000000000 S2 rfl (by decide) (by decide) (by decide) fun c2 H3 _ l3 u3 S3 B3 => ?_
        walk_at "go"
        refine draw_go S3 (by omega) (by omega) fun n2 H4 n20 n21 S4 B4 => ?_
        walk_at "go"
        refine numb_go S4 fun i H5 li S5 B5 => ?_
        walk_at "go"
        refine pickI [1, 1, 7, 1000, 10 ^ Int.toNat 9] 1 1000000000 S5 rfl (by decide) (by decide) (by decide) fun c3 H6 _ l6 u6 S6 B6 => ?_
        walk_at "go"
        refine Rd.new (by simp) fun p np => ?_
        refine q _ _ _ (.aturn upd_same li ?_ ⟨l6, by omega⟩) (S6.new np) ((((((B1.trans B2).trans B3).trans B4).trans B5).trans B6).trans (But.new np))
        have e : c1 = -1 ∨ c1 = 1 := by simpa using m2
        constructor <;> rcases e with e | e <;> subst e <;> omega
      · by_cases b : n1 = 2
        · walk_at "go"
          refine genA_go S1 (by omega) (by omega) fun v1 D1 H2 t1 S2 B2 => ?_
          walk_at "go"
          refine genQ_go S2 (by omega) (by omega) fun v2 D2 H3 t2 S3 B3 => ?_
          walk_at "go"
          refine Rd.new (by simp) fun p np => ?_
          have t1' := (t1.partA kz).sub (TupSub.but S2 B3)
          exact q _ _ _ (.amoved upd_same (t1'.sub (TupSub.same (Same.put np))) ((t2.partQ kz).sub (TupSub.same (Same.put np)))) (S3.new np) (((B1.trans B2).trans B3).trans (But.new np))
        · walk_at "go"
          refine genA_go S1 (by omega) (by omega) fun v1 D1 H2 t1 S2 B2 => ?_
          walk_at "go"
          refine genA_go S2 (by omega) (by omega) fun v2 D2 H3 t2 S3 B3 => ?_
          walk_at "go"
          refine Rd.new (by simp) fun p np => ?_
          have t1' := (t1.partA kz).sub (TupSub.but S2 B3)
          exact q _ _ _ (.aminus upd_same (t1'.sub (TupSub.same (Same.put np))) ((t2.partA kz).sub (TupSub.same (Same.put np)))) (S3.new np) (((B1.trans B2).trans B3).trans (But.new np))
    · have ek : k = 0 := by omega
      subst ek
      walk_at "go"
      refine pickI [-1, 1] (-1) 1 S rfl (by decide) (by decide) (by decide) fun c1 H2 m2 l2 u2 S2 B2 => ?_
      walk_at "go"
      refine pickI [9, 1000, 400000, 10 ^ Int.toNat 12] 1 1000000000000 S2 rfl (by decide) (by decide) (by decide) fun c2 H3 _ l3 u3 S3 B3 => ?_
      walk_at "go"
      refine draw_go S3 (by omega) (by omega) fun n2 H4 n20 n21 S4 B4 => ?_
      walk_at "go"
      refine numb_go S4 fun i H5 li S5 B5 => ?_
      walk_at "go"
      refine pickI [1, 1, 7, 1000, 10 ^ Int.toNat 9] 1 1000000000 S5 rfl (by decide) (by decide) (by decide) fun c3 H6 _ l6 u6 S6 B6 => ?_
      walk_at "go"
      refine Rd.new (by simp) fun p np => ?_
      refine q _ _ _ (.aturn upd_same li ?_ ⟨l6, by omega⟩) (S6.new np) (((((B2.trans B3).trans B4).trans B5).trans B6).trans (But.new np))
      have e : c1 = -1 ∨ c1 = 1 := by simpa using m2
      constructor <;> rcases e with e | e <;> subst e <;> omega
set_option maxHeartbeats 16000000 in
theorem ok_genQ (T0 : Txt K mg) (m : Nat) (GQ : ∃ (f : Addr) (fd : FuncData), FnOk P w K mg base CX0 (2 * m + 4) f fd ["state", "deep"] (spGenQ m) ∧ mg "_law_quantity" = some (.ref f) ∧ PySem.W.keepIn K (.ref f) = true ∧ L2.Binds K fd ["state", "deep"] [])
    (GA : ∃ (f : Addr) (fd : FuncData), FnOk P w K mg base CX0 (2 * m + 4) f fd ["state", "deep"] (spGenA (m + 1)) ∧ mg "_law_angle" = some (.ref f) ∧ PySem.W.keepIn K (.ref f) = true ∧ L2.Binds K fd ["state", "deep"] []) :
    ∃ (f : Addr) (fd : FuncData), FnOk P w K mg base CX0 (2 * m + 5) f fd ["state", "deep"] (spGenQ (m + 1)) ∧ mg "_law_quantity" = some (.ref f) ∧ PySem.W.keepIn K (.ref f) = true ∧ L2.Binds K fd ["state", "deep"] [] := by
  obtain ⟨f, fd, F, g, bi⟩ := T0.d__law_quantity
  have T := T0
  obtain ⟨f__law_draw, fd__law_draw, G__law_draw, g__law_draw, kp__law_draw, b__law_draw⟩ := ok_draw (P := P) (w := w) (base := base) T0
  obtain ⟨f__law_number, fd__law_number, G__law_number, g__law_number, kp__law_number, b__law_number⟩ := ok_numb (P := P) (w := w) (base := base) T0
  obtain ⟨f__law_divisor, fd__law_divisor, G__law_divisor, g__law_divisor, kp__law_divisor, b__law_divisor⟩ := ok_divi (P := P) (w := w) (base := base) T0
  obtain ⟨f__law_angle, fd__law_angle, G__law_angle, g__law_angle, kp__law_angle, b__law_angle⟩ := GA
  obtain ⟨f__law_quantity, fd__law_quantity, G__law_quantity, g__law_quantity, kp__law_quantity, b__law_quantity⟩ := GQ
  refine ⟨f, fd, ?_, g, F.kp, bi⟩
  refine F.ok sc__law_quantity (fun vs H Q E h => ?_) (fun cdv A outer s H vs Q E hr h => ?_)
  · obtain ⟨d, cc, k, rfl, _⟩ := h; rfl
  · obtain ⟨d, cc, k, rfl, k0, k1, S, q⟩ := h
    refine ⟨_, (pss_cons (ps_set (i := 2) sc__law_quantity.nd rfl (by first | exact Or.inl rfl | exact Or.inr rfl) (pe_ifExp (pt_cmpR op_gt (pv 1) pe_int (nomark _)) (pe_call G__law_draw (hr.mono (by omega)) (by rfl) g__law_draw kp__law_draw b__law_draw .nil pass0 (pa_cons (pv 0) (pa_cons pe_int pa_nil))) (pe_op op_mul (pe_call G__law_draw (hr.mono (by omega)) (by rfl) g__law_draw kp__law_draw b__law_draw .nil pass0 (pa_cons (pv 0) (pa_cons pe_int pa_nil))) pe_int)))
      (pss_cons (ps_if (pt_cmpR op_eq (pv 2) pe_int (nomark _)) (pss_one (ps_ret (pe_tup (pa_cons pe_str (pa_cons (pe_call G__law_number (hr.mono (by omega)) (by rfl) g__law_number kp__law_number b__law_number .nil pass0 (pa_cons (pv 0) pa_nil)) pa_nil))))) pss_nil)
      (pss_cons (ps_if (pt_cmpR op_in_seq (pv 2) (pe_lst (pa_cons pe_int (pa_cons pe_int pa_nil))) (by rfl)) (pss_one (ps_ret (pe_tup (pa_cons pe_str (pa_cons (pe_call G__law_angle (hr.mono (by omega)) (by rfl) g__law_angle kp__law_angle b__law_angle .nil pass0 (pa_cons (pv 0) (pa_cons (pe_callB (call_max2 rfl) (by rfl) T.m_max (by decide +kernel) (pa_cons pe_int (pa_cons (pe_op op_sub (pv 1) pe_int) pa_nil))) pa_nil))) pa_nil))))) pss_nil)
      (pss_cons (ps_if (pt_cmpR op_in_seq (pv 2) (pe_lst (pa_cons pe_int (pa_cons pe_int pa_nil))) (by rfl)) (pss_one (ps_ret (pe_op op_catT (pe_tup (pa_cons pe_str pa_nil)) (pe_callTy call_tuple_of (by rfl) T.m_tuple (by decide +kernel) (pa_cons (pe_lc (own := [("k", 3)]) (g := gName 3) (tt := tYes) (by rfl) sc__law_quantity.nd (pi_range1 (by rfl) T.m_range (pa_cons (pe_op op_add pe_int (pe_call G__law_draw (hr.mono (by omega)) (by rfl) g__law_draw kp__law_draw b__law_draw .nil pass0 (pa_cons (pv 0) (pa_cons pe_int pa_nil)))) pa_nil)) (blkOk_by (own := [("k", 3)]) (N := ["state", "deep", "kind", "k"]) (sc := defScope s__law_quantity) (by decide +kernel)) (fun _ _ _ _ _ => (pg_name (i := 3) sc__law_quantity.nd rfl (Or.inl rfl))) (fun _ _ _ _ _ => pts_nil) (fun _ _ _ _ _ => (pe_call G__law_quantity (hr.mono (by omega)) (by rfl) g__law_quantity kp__law_quantity b__law_quantity .nil pass0 (pa_cons (pv 0) (pa_cons (pe_op op_sub (pv 1) pe_int) pa_nil))))) pa_nil))))) pss_nil)
      (pss_cons (ps_if (pt_cmpR op_eq (pv 2) pe_int (nomark _)) (pss_one (ps_ret (pe_tup (pa_cons pe_str (pa_cons (pe_call G__law_quantity (hr.mono (by omega)) (by rfl) g__law_quantity kp__law_quantity b__law_quantity .nil pass0 (pa_cons (pv 0) (pa_cons (pe_op op_sub (pv 1) pe_int) pa_nil))) (pa_cons (pe_call G__law_number (hr.mono (by omega)) (by rfl) g__law_number kp__law_number b__law_number .nil pass0 (pa_cons (pv 0) pa_nil)) (pa_cons (pe_call G__law_divisor (hr.mono (by omega)) (by rfl) g__law_divisor kp__law_divisor b__law_divisor .nil pass0 (pa_cons (pv 0) pa_nil)) pa_nil))))))) pss_nil)
      (pss_cons (ps_if (pt_cmpR op_eq (pv 2) pe_int (nomark _)) (pss_one (ps_ret (pe_tup (pa_cons pe_str (pa_cons (pe_call G__law_quantity (hr.mono (by omega)) (by rfl) g__law_quantity kp__law_quantity b__law_quantity .nil pass0 (pa_cons (pv 0) (pa_cons (pe_op op_sub (pv 1) pe_int) pa_nil))) (pa_cons (pe_call G__law_quantity (hr.mono (by omega)) (by rfl) g__law_quantity kp__law_quantity b__law_quantity .nil pass0 (pa_cons (pv 0) (pa_cons (pe_op op_sub (pv 1) pe_int) pa_nil))) (pa_cons (pe_call G__law_divisor (hr.mono (by omega)) (by rfl) g__law_divisor kp__law_divisor b__law_divisor .nil pass0 (pa_cons (pv 0) pa_nil)) pa_nil))))))) pss_nil)
      (pss_one (ps_ret (pe_tup (pa_cons pe_str (pa_cons (pe_call G__law_quantity (hr.mono (by omega)) (by rfl) g__law_quantity kp__law_quantity b__law_quantity .nil pass0 (pa_cons (pv 0) (pa_cons (pe_op op_sub (pv 1) pe_int) pa_nil))) (pa_cons (pe_op op_sub (pe_call G__law_draw (hr.mono (by omega)) (by rfl) g__law_draw kp__law_draw b__law_draw .nil pass0 (pa_cons (pv 0) (pa_cons pe_int pa_nil))) pe_int) pa_nil)))))))))))), ?_⟩
    refine Rd.start (σ' := [some (.ref d), some (.int k), none, none]) rfl ?_
    try dsimp only [cxOf, Cx.nox, Cx.wish]
    by_cases kz : 0 < k
    · walk_at "go"
      refine draw_go S (by omega) (by omega) fun n1 H1 n10 n11 S1 B1 => ?_
      walk_at "rd"
      refine Rd.ite (fun e0 => ?_) (fun e0 => ?_)
      · walk_at "go"
        refine numb_go S1 fun i H2 li S2 B2 => ?_
        walk_at "go"
        refine Rd.new (by simp) fun p np => ?_
        exact q _ _ _ (.qnum upd_same li) (S2.new np) ((B1.trans B2).trans (But.new np))
      walk_at "go"
      refine Rd.new (by simp) fun p1 np1 => ?_
      have S1' := S1.new (o := .lst [V.int 1, V.int 7]) np1
      have B1' := B1.trans (But.new (d := d) (o := .lst [V.int 1, V.int 7]) np1)
      walk_at "go"
      refine Rd.inI [1, 7] (SqL.of upd_same) rfl ?_
      walk_at "rd"
      refine Rd.ite (fun e1 => ?_) (fun e1 => ?_)
      · walk_at "go"
        have em : (if k - 1 > 0 then k - 1 else 0) = k - 1 := by split <;> omega
        rw [em]
        refine genA_go S1' (by omega) (by omega) fun v1 D1 H2 t1 S2 B2 => ?_
        walk_at "go"
        refine Rd.new (by simp) fun p np => ?_
        exact q _ _ _ (.qwave upd_same ((t1.partA kz).sub (TupSub.same (Same.put np)))) (S2.new np) ((B1'.trans B2).trans (But.new np))
      walk_at "go"
      refine Rd.new (by simp) fun p2 np2 => ?_
      have S1'' := S1'.new (o := .lst [V.int 2, V.int 3]) np2
      have B1'' := B1'.trans (But.new (d := d) (o := .lst [V.int 2, V.int 3]) np2)
      walk_at "go"
      refine Rd.inI [2, 3] (SqL.of upd_same) rfl ?_
      walk_at "rd"
      refine Rd.ite (fun e2 => ?_) (fun e2 => ?_)
      · walk_at "go"
        refine Rd.new (by simp) fun p3 np3 => ?_
        walk_at "go"
        refine draw_go (S1''.new np3) (by omega) (by omega) fun c H2 c0 c1 S2 B2 => ?_
        have h3 : H2 p3 = some (.tup [.str "sum"]) := B2 _ _ ((S1''.new (o := .tup [.str "sum"]) np3).neT upd_same) upd_same
        walk_at "go"
        refine Rd.lcr1Go (σ0 := [some (.ref d), some (.int k), some (.int n1), none]) rfl (by omega) (by omega) (fun D i H' => ∃ xs gs, H2 D = none ∧ H' D = some (.lst xs) ∧ xs.length = i ∧ gs.length = i ∧ (∀ (j : Nat) x g, xs[j]? = some x → gs[j]? = some g → Ex H' (k.toNat + 1) true x g) ∧ DrawS H' d cc ∧ But d H2 H')
          (fun D nD => ⟨[], [], nD, upd_same, rfl, rfl, fun j x g hx => by simp at hx, S2.new nD, But.new nD⟩) (fun D i H' hi h => ?_) (fun D H' nD h => ?_)
        · obtain ⟨xs, gs, nD, hD, lx, lg, hT, S3, B3⟩ := h
          walk_at "go"
          refine genQ_go S3 (by omega) (by omega) fun v1 D1 H4 t1 S4 B4 => ?_
          have nDd : D ≠ d := S3.ne hD
          refine Rd.lcn (B4 _ _ nDd hD) (by omega) ⟨xs ++ [v1], gs ++ [D1], nD, upd_same, by simp [lx], by simp [lg], fun j x g hx hg => ?_, ?_, (B3.trans B4).mut nD⟩
          · have sub : TupSub H4 (upd H4 D (.lst (xs ++ [v1]))) := fun a ys ha => keepN (ne_of ha (B4 _ _ nDd hD) (by intro z; cases z)) ha
            by_cases hj : j < i
            · rw [List.getElem?_append_left (by omega)] at hx hg
              exact ((hT j x g hx hg).sub (TupSub.but S3 B4)).sub sub
            · have ej : j = i := by
                have := (List.getElem?_eq_some_iff.mp hx).1
                rw [List.length_append, List.length_singleton] at this
                omega
              subst ej
              rw [List.getElem?_append_right (by omega), lx] at hx
              rw [List.getElem?_append_right (by omega), lg] at hg
              simp at hx hg
              subst hx
              subst hg
              exact (t1.partQ kz).sub sub
          · exact S4.putL (B4 _ _ nDd hD) (S2.neC nD)
        · obtain ⟨xs, gs, nD2, hD, lx, lg, hT, S3, B3⟩ := h
          have hx0 : xs ≠ [] := by
            intro z
            subst z
            simp at lx
            omega
          obtain ⟨y, ys, rfl⟩ : ∃ y ys, xs = y :: ys := by
            cases xs with
            | nil => exact absurd rfl hx0
            | cons y ys => exact ⟨y, ys, rfl⟩
          walk_at "go"
          refine Rd.tupL (SqL.of hD) fun p4 np4 => ?_
          walk_at "go"
          have h3' : H' p3 = some (.tup [.str "sum"]) := B3 _ _ (S2.neT h3) h3
          rw [List.length_cons] at lx
          refine Rd.catT (xs := []) (SqT.of (keep np4 h3')) (SqT.of upd_same) (by simp; omega) fun p5 np5 => ?_
          have B5 := ((((B1''.trans (But.new (d := d) (o := .tup [.str "sum"]) np3)).trans B2).trans B3).trans (But.new (d := d) (o := .tup (y :: ys)) np4)).trans (But.new (d := d) (o := .tup (V.str "sum" :: [] ++ y :: ys)) np5)
          refine q _ _ _ (.qsum (xs := y :: ys) (gs := gs) upd_same ?_ ?_ ?_ fun j x g hx hg => ?_) ((S3.new np4).new np5) B5
          · rw [List.length_cons]; omega
          · rw [List.length_cons]; omega
          · rw [List.length_cons]; omega
          · exact (hT j x g hx hg).sub (TupSub.same ((Same.put np4).trans (Same.put np5)))
      walk_at "go"
      by_cases e3 : n1 = 4
      · walk_at "go"
        refine genQ_go S1'' (by omega) (by omega) fun v1 D1 H2 t1 S2 B2 => ?_
        walk_at "go"
        refine numb_go S2 fun i H3 li S3 B3 => ?_
        walk_at "go"
        refine divi_go S3 fun j H4 lj S4 B4 => ?_
        walk_at "go"
        refine Rd.new (by simp) fun p np => ?_
        exact q _ _ _ (.qshare upd_same (((t1.partQ kz).sub (TupSub.but S2 (B3.trans B4))).sub (TupSub.same (Same.put np))) li lj) (S4.new np) ((((B1''.trans B2).trans B3).trans B4).trans (But.new np))
      by_cases e4 : n1 = 5
      · walk_at "go"
        refine genQ_go S1'' (by omega) (by omega) fun v1 D1 H2 t1 S2 B2 => ?_
        walk_at "go"
        refine genQ_go S2 (by omega) (by omega) fun v2 D2 H3 t2 S3 B3 => ?_
        walk_at "go"
        refine divi_go S3 fun j H4 lj S4 B4 => ?_
        walk_at "go"
        refine Rd.new (by simp) fun p np => ?_
        exact q _ _ _ (.qprod upd_same (((t1.partQ kz).sub (TupSub.but S2 (B3.trans B4))).sub (TupSub.same (Same.put np))) (((t2.partQ kz).sub (TupSub.but S3 B4)).sub (TupSub.same (Same.put np))) lj) (S4.new np) ((((B1''.trans B2).trans B3).trans B4).trans (But.new np))
      · walk_at "go"
        refine genQ_go S1'' (by omega) (by omega) fun v1 D1 H2 t1 S2 B2 => ?_
        walk_at "go"
        refine draw_go S2 (by omega) (by omega) fun c H3 c0 c1 S3 B3 => ?_
        walk_at "go"
        refine Rd.new (by simp) fun p np => ?_
        exact q _ _ _ (.qlater upd_same (((t1.partQ kz).sub (TupSub.but S2 B3)).sub (TupSub.same (Same.put np))) ⟨by omega, by omega⟩) (S3.new np) (((B1''.trans B2).trans B3).trans (But.new np))
    · have ek : k = 0 := by omega
      subst ek
      walk_at "go"
      refine draw_go S (by omega) (by omega) fun n1 H1 n10 n11 S1 B1 => ?_
      walk_at "go"
      by_cases e0 : n1 = 0
      · subst e0
        walk_at "go"
        refine numb_go S1 fun i H2 li S2 B2 => ?_
        walk_at "go"
        refine Rd.new (by simp) fun p np => ?_
        exact q _ _ _ (.qnum upd_same li) (S2.new np) ((B1.trans B2).trans (But.new np))
      · have e1 : n1 = 1 := by omega
        subst e1
        walk_at "go"
        refine Rd.new (by simp) fun p1 np1 => ?_
        have S1' := S1.new (o := .lst [V.int 1, V.int 7]) np1
        have B1' := B1.trans (But.new (d := d) (o := .lst [V.int 1, V.int 7]) np1)
        walk_at "go"
        refine Rd.inI [1, 7] (SqL.of upd_same) rfl ?_
        walk_at "go"
        refine genA_go S1' (by decide) (by omega) fun v1 D1 H2 t1 S2 B2 => ?_
        walk_at "go"
        refine Rd.new (by simp) fun p np => ?_
        exact q _ _ _ (.qwave upd_same (Ex.sub (TupSub.same (Same.put np)) t1)) (S2.new np) ((B1'.trans B2).trans (But.new np))
end

section
open Rd
variable {P : Program} {w : World} {K : PySem.W.Frag} {mg : Str → Option Value} {base : Heap}
theorem ok_gens (T0 : Txt K mg) : ∀ m : Nat, (∃ (f : Addr) (fd : FuncData), FnOk P w K mg base CX0 (2 * m + 3) f fd ["state", "deep"] (spGenA m) ∧ mg "_law_angle" = some (.ref f) ∧ PySem.W.keepIn K (.ref f) = true ∧ L2.Binds K fd ["state", "deep"] []) ∧
    (∃ (f : Addr) (fd : FuncData), FnOk P w K mg base CX0 (2 * m + 3) f fd ["state", "deep"] (spGenQ m) ∧ mg "_law_quantity" = some (.ref f) ∧ PySem.W.keepIn K (.ref f) = true ∧ L2.Binds K fd ["state", "deep"] []) := by
  intro m
  induction m with
  | zero =>
    obtain ⟨fa, fda, Fa, ga, ba⟩ := T0.d__law_angle
    obtain ⟨fq, fdq, Fq, gq, bq⟩ := T0.d__law_quantity
    exact ⟨⟨fa, fda, never.imp (fun vs H Q E h => by obtain ⟨d, cc, k, _, h0, h1, _⟩ := h; omega), ga, Fa.kp, ba⟩, ⟨fq, fdq, never.imp (fun vs H Q E h => by obtain ⟨d, cc, k, _, h0, h1, _⟩ := h; omega), gq, Fq.kp, bq⟩⟩
  | succ m ih =>
    obtain ⟨GA, GQ⟩ := ih
    have GA1 := ok_genA T0 m GQ GA
    obtain ⟨f2, fd2, G2, r2⟩ := GQ
    have GQ1 := ok_genQ T0 m ⟨f2, fd2, G2.mono (by omega), r2⟩ GA1
    obtain ⟨f3, fd3, G3, r3⟩ := GA1
    exact ⟨⟨f3, fd3, G3.mono (by omega), r3⟩, GQ1⟩
theorem Ex.upTo {H : Hp} {n : Nat} {k : Bool} {v : V} {D : Den} (h : Ex H n k v D) : ∀ {m : Nat}, n ≤ m → Ex H m k v D := by
  intro m hm
  induction hm with
  | refl => exact h
  | step _ ih => exact ih.up
theorem DrawS.same {H H' : Hp} {d c : Addr} (S : DrawS H d c) (s : Same H H') : DrawS H' d c := by
  obtain ⟨a, l, m, cs, h1, h2, r⟩ := S
  exact ⟨a, l, m, cs, s _ _ h1, s _ _ h2, r⟩

def spLaw (K : PySem.W.Frag) : Sp := fun vs H Q _ => ∃ (a : Addr) (ns : List Int), vs = [.ref a] ∧ SqL K H a (ns.map V.int) ∧ ns.length ≤ 63 ∧ ∀ H', Q (.bl true) H'
set_option maxHeartbeats 16000000 in
theorem ok_law {f : Addr} {fd : FuncData} (T : Txt K mg) (F : Fun K "law" "law" s_law f fd) : FnOk P w K mg base CX0 16 f fd ["script"] (spLaw K) := by
  obtain ⟨f__law_start, fd__law_start, G__law_start, g__law_start, kp__law_start, b__law_start⟩ := ok_start (P := P) (w := w) (base := base) T
  obtain ⟨f__law_draw, fd__law_draw, G__law_draw, g__law_draw, kp__law_draw, b__law_draw⟩ := ok_draw (P := P) (w := w) (base := base) T
  obtain ⟨f__law_pick, fd__law_pick, G__law_pick, g__law_pick, kp__law_pick, b__law_pick⟩ := ok_pick (P := P) (w := w) (base := base) T
  obtain ⟨f__law_is_number, fd__law_is_number, G__law_is_number, g__law_is_number, kp__law_is_number, b__law_is_number⟩ := ok_num (P := P) (w := w) (base := base) T
  obtain ⟨⟨f__law_angle, fd__law_angle, G__law_angle, g__law_angle, kp__law_angle, b__law_angle⟩, ⟨f__law_quantity, fd__law_quantity, G__law_quantity, g__law_quantity, kp__law_quantity, b__law_quantity⟩⟩ := ok_gens (P := P) (w := w) (base := base) T 5
  obtain ⟨⟨f_value, fd_value, G_value, g_value, kp_value, b_value⟩, _⟩ := ok_value (P := P) (w := w) (base := base) T 7
  obtain ⟨_, ⟨f_angle_value, fd_angle_value, G_angle_value, g_angle_value, kp_angle_value, b_angle_value⟩⟩ := ok_value (P := P) (w := w) (base := base) T 7
  obtain ⟨⟨f__law_value, fd__law_value, G__law_value, g__law_value, kp__law_value, b__law_value⟩, ⟨f__law_angle_at, fd__law_angle_at, G__law_angle_at, g__law_angle_at, kp__law_angle_at, b__law_angle_at⟩⟩ := ok__law_value (P := P) (w := w) (base := base) T 7
  refine F.ok sc_law (fun vs H Q E h => ?_) (fun cdv A outer s H vs Q E hr h => ?_)
  · obtain ⟨a, ns, rfl, _⟩ := h; rfl
  · obtain ⟨a, ns, rfl, hS, hlen, q⟩ := h
    refine ⟨_, (pss_cons (ps_set (i := 1) sc_law.nd rfl (by first | exact Or.inl rfl | exact Or.inr rfl) (pe_call G__law_start (hr.mono (by omega)) (by rfl) g__law_start kp__law_start b__law_start .nil pass0 (pa_cons (pv 0) pa_nil)))
      (pss_cons (ps_set (i := 2) sc_law.nd rfl (by first | exact Or.inl rfl | exact Or.inr rfl) (pe_call G__law_quantity (hr.mono (by omega)) (by rfl) g__law_quantity kp__law_quantity b__law_quantity .nil pass0 (pa_cons (pv 1) (pa_cons (pe_op op_add pe_int (pe_call G__law_draw (hr.mono (by omega)) (by rfl) g__law_draw kp__law_draw b__law_draw .nil pass0 (pa_cons (pv 1) (pa_cons pe_int pa_nil)))) pa_nil))))
      (pss_cons (ps_set (i := 3) sc_law.nd rfl (by first | exact Or.inl rfl | exact Or.inr rfl) (pe_call G__law_angle (hr.mono (by omega)) (by rfl) g__law_angle kp__law_angle b__law_angle .nil pass0 (pa_cons (pv 1) (pa_cons (pe_op op_add pe_int (pe_call G__law_draw (hr.mono (by omega)) (by rfl) g__law_draw kp__law_draw b__law_draw .nil pass0 (pa_cons (pv 1) (pa_cons pe_int pa_nil)))) pa_nil))))
      (pss_cons (ps_for PassesOwn.never rfl (pi_range1 (by rfl) T.m_range (pa_cons pe_int pa_nil)) (pg_name (i := 4) sc_law.nd rfl (by first | exact Or.inl rfl | exact Or.inr rfl)) (pss_cons (ps_set (i := 5) sc_law.nd rfl (by first | exact Or.inl rfl | exact Or.inr rfl) (pe_op op_mul (pe_call G__law_pick (hr.mono (by omega)) (by rfl) g__law_pick kp__law_pick b__law_pick .nil pass0 (pa_cons (pv 1) (pa_cons (pe_lst (pa_cons (pe_un un_neg pe_int) (pa_cons pe_int pa_nil))) pa_nil))) (pe_call G__law_draw (hr.mono (by omega)) (by rfl) g__law_draw kp__law_draw b__law_draw .nil pass0 (pa_cons (pv 1) (pa_cons (pe_call G__law_pick (hr.mono (by omega)) (by rfl) g__law_pick kp__law_pick b__law_pick .nil pass0 (pa_cons (pv 1) (pa_cons (pe_lst (pa_cons pe_int (pa_cons pe_int (pa_cons (pe_op op_pow pe_int pe_int) pa_nil)))) pa_nil))) pa_nil)))))
      (pss_cons (ps_set (i := 6) sc_law.nd rfl (by first | exact Or.inl rfl | exact Or.inr rfl) (pe_call G_value (hr.mono (by omega)) (by rfl) g_value kp_value b_value .nil pass0 (pa_cons (pv 2) (pa_cons (pv 5) pa_nil))))
      (pss_cons (ps_if (PW.pt (pw_or (pt_not (pt_val (pe_call G__law_is_number (hr.mono (by omega)) (by rfl) g__law_is_number kp__law_is_number b__law_is_number .nil pass0 (pa_cons (pv 6) pa_nil)))) (pw_or1 (pt_cmpR op_ne (pv 6) (pe_call G__law_value (hr.mono (by omega)) (by rfl) g__law_value kp__law_value b__law_value .nil pass0 (pa_cons (pv 2) (pa_cons (pv 5) pa_nil))) (nomark _))))) (pss_one (ps_ret pe_bl)) pss_nil)
      (pss_cons (ps_set (i := 7) sc_law.nd rfl (by first | exact Or.inl rfl | exact Or.inr rfl) (pe_call G_angle_value (hr.mono (by omega)) (by rfl) g_angle_value kp_angle_value b_angle_value .nil pass0 (pa_cons (pv 3) (pa_cons (pv 5) pa_nil))))
      (pss_cons (ps_if (PW.pt (pw_or (pt_not (pt_val (pe_call G__law_is_number (hr.mono (by omega)) (by rfl) g__law_is_number kp__law_is_number b__law_is_number .nil pass0 (pa_cons (pv 7) pa_nil)))) (pw_or1 (pt_cmpR op_ne (pv 7) (pe_call G__law_angle_at (hr.mono (by omega)) (by rfl) g__law_angle_at kp__law_angle_at b__law_angle_at .nil pass0 (pa_cons (pv 3) (pa_cons (pv 5) pa_nil))) (nomark _))))) (pss_one (ps_ret pe_bl)) pss_nil)
      (pss_cons (ps_set (i := 8) sc_law.nd rfl (by first | exact Or.inl rfl | exact Or.inr rfl) (pe_op op_sub (pe_call G__law_draw (hr.mono (by omega)) (by rfl) g__law_draw kp__law_draw b__law_draw .nil pass0 (pa_cons (pv 1) (pa_cons pe_int pa_nil))) pe_int))
      (pss_one (ps_if (pt_cmpR op_ne (pe_call G_value (hr.mono (by omega)) (by rfl) g_value kp_value b_value .nil pass0 (pa_cons (pe_tup (pa_cons pe_str (pa_cons (pv 2) (pa_cons (pv 8) pa_nil)))) (pa_cons (pv 5) pa_nil))) (pe_call G__law_value (hr.mono (by omega)) (by rfl) g__law_value kp__law_value b__law_value .nil pass0 (pa_cons (pv 2) (pa_cons (pe_op op_add (pv 5) (pv 8)) pa_nil))) (nomark _)) (pss_one (ps_ret pe_bl)) pss_nil)))))))))
      (pss_one (ps_ret pe_bl)))))), ?_⟩
    refine Rd.start (σ' := [some (.ref a), none, none, none, none, none, none, none, none]) rfl ?_
    try dsimp only [cxOf, Cx.nox, Cx.wish]
    walk_at "go"
    refine start_go hS hlen fun d cc H1 S1 _ _ => ?_
    walk_at "go"
    refine draw_go S1 (by omega) (by omega) fun n1 H2 n10 n11 S2 _ => ?_
    walk_at "go"
    refine genQ_go S2 (by omega) (by omega) fun vq Dq H3 tq S3 _ => ?_
    have tq7 : Ex H3 7 true vq Dq := tq.upTo (by omega)
    walk_at "go"
    refine draw_go S3 (by omega) (by omega) fun n2 H4 n20 n21 S4 B4 => ?_
    walk_at "go"
    refine genA_go S4 (by omega) (by omega) fun va Da H5 ta S5 B5 => ?_
    have ta7 : Ex H5 7 false va Da := ta.upTo (by unfold ia; split <;> omega)
    have tq5 : Ex H5 6 true vq Dq := (Ex.upTo tq (by omega)).sub (TupSub.but S3 (B4.trans B5))
    walk_at "go"
    refine Rd.rngGo (by omega) (fun i σ' H' => ∃ x1 x2 x3 x4 x5, σ' = [some (.ref a), some (.ref d), some vq, some va, x1, x2, x3, x4, x5] ∧ DrawS H' d cc ∧ Ex H' 6 true vq Dq ∧ Ex H' 7 false va Da) ⟨none, none, none, none, none, rfl, S5, tq5, ta7⟩ (fun i σ' H' hi h => ?_) (fun σ' H' h => ?_) (by omega)
    · obtain ⟨x1, x2, x3, x4, x5, rfl, S6, tq6, ta6⟩ := h
      walk_at "go"
      refine pickI [-1, 1] (-1) 1 S6 rfl (by decide) (by decide) (by decide) fun k1 H2 _ l1 u1 S7 B7 => ?_
      walk_at "go"
      refine pickI [3, 2000, 10 ^ Int.toNat 9] 3 1000000000 S7 rfl (by decide) (by decide) (by decide) fun k2 H3 _ l2 u2 S8 B8 => ?_
      walk_at "go"
      refine draw_go S8 (by omega) (by omega) fun n3 H4 n30 n31 S9 B9 => ?_
      have tq9 := tq6.sub (TupSub.but S6 ((B7.trans B8).trans B9))
      have ta9 := ta6.sub (TupSub.but S6 ((B7.trans B8).trans B9))
      walk_at "go"
      refine val_go tq9.up (by omega) fun H10 s10 => ?_
      walk_at "go"
      refine num_go ?_
      walk_at "go"
      refine val_go (tq9.sub (TupSub.same s10)).up (by omega) fun H11 s11 => ?_
      walk_at "go"
      have ta11 := ta9.sub (TupSub.same (s10.trans s11))
      have tq11 := tq9.sub (TupSub.same (s10.trans s11))
      refine val_go ta11 (by omega) fun H12 s12 => ?_
      walk_at "go"
      refine num_go ?_
      walk_at "go"
      refine val_go (ta11.sub (TupSub.same s12)) (by omega) fun H13 s13 => ?_
      walk_at "go"
      have S13 := S9.same ((s10.trans s11).trans (s12.trans s13))
      refine draw_go S13 (by omega) (by omega) fun n4 H14 n40 n41 S14 B14 => ?_
      have tq14 := (tq11.sub (TupSub.same (s12.trans s13))).sub (TupSub.but S13 B14)
      have ta14 := (ta11.sub (TupSub.same (s12.trans s13))).sub (TupSub.but S13 B14)
      walk_at "go"
      refine Rd.new (by simp) fun p np => ?_
      walk_at "go"
      refine val_go (k := true) (.qlater (n := 6) upd_same (tq14.sub (TupSub.same (Same.put np))) ⟨by omega, by omega⟩) (by omega) fun H15 s15 => ?_
      walk_at "go"
      have tq15 := tq14.sub (TupSub.same ((Same.put np).trans s15))
      refine val_go tq15.up (by omega) fun H16 s16 => ?_
      walk_at "go"
      exact ⟨_, _, _, _, _, rfl, (S14.new np).same (s15.trans s16), tq15.sub (TupSub.same s16), ta14.sub (TupSub.same (((Same.put np).trans s15).trans s16))⟩
    · obtain ⟨x1, x2, x3, x4, x5, rfl, _⟩ := h
      walk_at "go"
      exact q _
end
theorem all_mk {l : PySem.W.OpenLaw} {w : World} {K : PySem.W.Frag} {h : Heap} {mg : Str → Option Value} {fa : Addr} (X : K.In h) (G : h.Ns mainGlobals mg) (hfa : mg "law" = some (.ref fa))
    {f0 : Addr} {od0 an0 : Option Addr} {sl0 : Array (Option Value)} {oc0 kV0 dc0 pm0 cd0 ct0 : Value} (a0 : PySem.W.nsIn K mainGlobals "arch" = some (some (.ref f0))) (l0 : K.lookup f0 = some ⟨oc0, od0, .func (PySem.W.fnOf "arch" "arch" (defArgs s_arch) (defBody s_arch) (defScope s_arch) .none kV0 dc0 pm0 an0 cd0 ct0), sl0⟩) (c0 : PySem.W.codeIn K cd0 "arch" = true) (k0 : PySem.W.keepIn K (.ref f0) = true)
    {f1 : Addr} {od1 an1 : Option Addr} {sl1 : Array (Option Value)} {oc1 kV1 dc1 pm1 cd1 ct1 : Value} (a1 : PySem.W.nsIn K mainGlobals "wave" = some (some (.ref f1))) (l1 : K.lookup f1 = some ⟨oc1, od1, .func (PySem.W.fnOf "wave" "wave" (defArgs s_wave) (defBody s_wave) (defScope s_wave) .none kV1 dc1 pm1 an1 cd1 ct1), sl1⟩) (c1 : PySem.W.codeIn K cd1 "wave" = true) (k1 : PySem.W.keepIn K (.ref f1) = true)
    {f2 : Addr} {od2 an2 : Option Addr} {sl2 : Array (Option Value)} {oc2 kV2 dc2 pm2 cd2 ct2 : Value} (a2 : PySem.W.nsIn K mainGlobals "value" = some (some (.ref f2))) (l2 : K.lookup f2 = some ⟨oc2, od2, .func (PySem.W.fnOf "value" "value" (defArgs s_value) (defBody s_value) (defScope s_value) .none kV2 dc2 pm2 an2 cd2 ct2), sl2⟩) (c2 : PySem.W.codeIn K cd2 "value" = true) (k2 : PySem.W.keepIn K (.ref f2) = true)
    {f3 : Addr} {od3 an3 : Option Addr} {sl3 : Array (Option Value)} {oc3 kV3 dc3 pm3 cd3 ct3 : Value} (a3 : PySem.W.nsIn K mainGlobals "angle_value" = some (some (.ref f3))) (l3 : K.lookup f3 = some ⟨oc3, od3, .func (PySem.W.fnOf "angle_value" "angle_value" (defArgs s_angle_value) (defBody s_angle_value) (defScope s_angle_value) .none kV3 dc3 pm3 an3 cd3 ct3), sl3⟩) (c3 : PySem.W.codeIn K cd3 "angle_value" = true) (k3 : PySem.W.keepIn K (.ref f3) = true)
    {f4 : Addr} {od4 an4 : Option Addr} {sl4 : Array (Option Value)} {oc4 kV4 dc4 pm4 cd4 ct4 : Value} (a4 : PySem.W.nsIn K mainGlobals "_law_start" = some (some (.ref f4))) (l4 : K.lookup f4 = some ⟨oc4, od4, .func (PySem.W.fnOf "_law_start" "_law_start" (defArgs s__law_start) (defBody s__law_start) (defScope s__law_start) .none kV4 dc4 pm4 an4 cd4 ct4), sl4⟩) (c4 : PySem.W.codeIn K cd4 "_law_start" = true) (k4 : PySem.W.keepIn K (.ref f4) = true)
    {f5 : Addr} {od5 an5 : Option Addr} {sl5 : Array (Option Value)} {oc5 kV5 dc5 pm5 cd5 ct5 : Value} (a5 : PySem.W.nsIn K mainGlobals "_law_draw" = some (some (.ref f5))) (l5 : K.lookup f5 = some ⟨oc5, od5, .func (PySem.W.fnOf "_law_draw" "_law_draw" (defArgs s__law_draw) (defBody s__law_draw) (defScope s__law_draw) .none kV5 dc5 pm5 an5 cd5 ct5), sl5⟩) (c5 : PySem.W.codeIn K cd5 "_law_draw" = true) (k5 : PySem.W.keepIn K (.ref f5) = true)
    {f6 : Addr} {od6 an6 : Option Addr} {sl6 : Array (Option Value)} {oc6 kV6 dc6 pm6 cd6 ct6 : Value} (a6 : PySem.W.nsIn K mainGlobals "_law_pick" = some (some (.ref f6))) (l6 : K.lookup f6 = some ⟨oc6, od6, .func (PySem.W.fnOf "_law_pick" "_law_pick" (defArgs s__law_pick) (defBody s__law_pick) (defScope s__law_pick) .none kV6 dc6 pm6 an6 cd6 ct6), sl6⟩) (c6 : PySem.W.codeIn K cd6 "_law_pick" = true) (k6 : PySem.W.keepIn K (.ref f6) = true)
    {f7 : Addr} {od7 an7 : Option Addr} {sl7 : Array (Option Value)} {oc7 kV7 dc7 pm7 cd7 ct7 : Value} (a7 : PySem.W.nsIn K mainGlobals "_law_is_number" = some (some (.ref f7))) (l7 : K.lookup f7 = some ⟨oc7, od7, .func (PySem.W.fnOf "_law_is_number" "_law_is_number" (defArgs s__law_is_number) (defBody s__law_is_number) (defScope s__law_is_number) .none kV7 dc7 pm7 an7 cd7 ct7), sl7⟩) (c7 : PySem.W.codeIn K cd7 "_law_is_number" = true) (k7 : PySem.W.keepIn K (.ref f7) = true)
    {f8 : Addr} {od8 an8 : Option Addr} {sl8 : Array (Option Value)} {oc8 kV8 dc8 pm8 cd8 ct8 : Value} (a8 : PySem.W.nsIn K mainGlobals "_law_is" = some (some (.ref f8))) (l8 : K.lookup f8 = some ⟨oc8, od8, .func (PySem.W.fnOf "_law_is" "_law_is" (defArgs s__law_is) (defBody s__law_is) (defScope s__law_is) .none kV8 dc8 pm8 an8 cd8 ct8), sl8⟩) (c8 : PySem.W.codeIn K cd8 "_law_is" = true) (k8 : PySem.W.keepIn K (.ref f8) = true)
    {f9 : Addr} {od9 an9 : Option Addr} {sl9 : Array (Option Value)} {oc9 kV9 dc9 pm9 cd9 ct9 : Value} (a9 : PySem.W.nsIn K mainGlobals "_law_number" = some (some (.ref f9))) (l9 : K.lookup f9 = some ⟨oc9, od9, .func (PySem.W.fnOf "_law_number" "_law_number" (defArgs s__law_number) (defBody s__law_number) (defScope s__law_number) .none kV9 dc9 pm9 an9 cd9 ct9), sl9⟩) (c9 : PySem.W.codeIn K cd9 "_law_number" = true) (k9 : PySem.W.keepIn K (.ref f9) = true)
    {f10 : Addr} {od10 an10 : Option Addr} {sl10 : Array (Option Value)} {oc10 kV10 dc10 pm10 cd10 ct10 : Value} (a10 : PySem.W.nsIn K mainGlobals "_law_divisor" = some (some (.ref f10))) (l10 : K.lookup f10 = some ⟨oc10, od10, .func (PySem.W.fnOf "_law_divisor" "_law_divisor" (defArgs s__law_divisor) (defBody s__law_divisor) (defScope s__law_divisor) .none kV10 dc10 pm10 an10 cd10 ct10), sl10⟩) (c10 : PySem.W.codeIn K cd10 "_law_divisor" = true) (k10 : PySem.W.keepIn K (.ref f10) = true)
    {f11 : Addr} {od11 an11 : Option Addr} {sl11 : Array (Option Value)} {oc11 kV11 dc11 pm11 cd11 ct11 : Value} (a11 : PySem.W.nsIn K mainGlobals "_law_angle" = some (some (.ref f11))) (l11 : K.lookup f11 = some ⟨oc11, od11, .func (PySem.W.fnOf "_law_angle" "_law_angle" (defArgs s__law_angle) (defBody s__law_angle) (defScope s__law_angle) .none kV11 dc11 pm11 an11 cd11 ct11), sl11⟩) (c11 : PySem.W.codeIn K cd11 "_law_angle" = true) (k11 : PySem.W.keepIn K (.ref f11) = true)
    {f12 : Addr} {od12 an12 : Option Addr} {sl12 : Array (Option Value)} {oc12 kV12 dc12 pm12 cd12 ct12 : Value} (a12 : PySem.W.nsIn K mainGlobals "_law_quantity" = some (some (.ref f12))) (l12 : K.lookup f12 = some ⟨oc12, od12, .func (PySem.W.fnOf "_law_quantity" "_law_quantity" (defArgs s__law_quantity) (defBody s__law_quantity) (defScope s__law_quantity) .none kV12 dc12 pm12 an12 cd12 ct12), sl12⟩) (c12 : PySem.W.codeIn K cd12 "_law_quantity" = true) (k12 : PySem.W.keepIn K (.ref f12) = true)
    {f13 : Addr} {od13 an13 : Option Addr} {sl13 : Array (Option Value)} {oc13 kV13 dc13 pm13 cd13 ct13 : Value} (a13 : PySem.W.nsIn K mainGlobals "_law_arch" = some (some (.ref f13))) (l13 : K.lookup f13 = some ⟨oc13, od13, .func (PySem.W.fnOf "_law_arch" "_law_arch" (defArgs s__law_arch) (defBody s__law_arch) (defScope s__law_arch) .none kV13 dc13 pm13 an13 cd13 ct13), sl13⟩) (c13 : PySem.W.codeIn K cd13 "_law_arch" = true) (k13 : PySem.W.keepIn K (.ref f13) = true)
    {f14 : Addr} {od14 an14 : Option Addr} {sl14 : Array (Option Value)} {oc14 kV14 dc14 pm14 cd14 ct14 : Value} (a14 : PySem.W.nsIn K mainGlobals "_law_wave" = some (some (.ref f14))) (l14 : K.lookup f14 = some ⟨oc14, od14, .func (PySem.W.fnOf "_law_wave" "_law_wave" (defArgs s__law_wave) (defBody s__law_wave) (defScope s__law_wave) .none kV14 dc14 pm14 an14 cd14 ct14), sl14⟩) (c14 : PySem.W.codeIn K cd14 "_law_wave" = true) (k14 : PySem.W.keepIn K (.ref f14) = true)
    {f15 : Addr} {od15 an15 : Option Addr} {sl15 : Array (Option Value)} {oc15 kV15 dc15 pm15 cd15 ct15 : Value} (a15 : PySem.W.nsIn K mainGlobals "_law_angle_at" = some (some (.ref f15))) (l15 : K.lookup f15 = some ⟨oc15, od15, .func (PySem.W.fnOf "_law_angle_at" "_law_angle_at" (defArgs s__law_angle_at) (defBody s__law_angle_at) (defScope s__law_angle_at) .none kV15 dc15 pm15 an15 cd15 ct15), sl15⟩) (c15 : PySem.W.codeIn K cd15 "_law_angle_at" = true) (k15 : PySem.W.keepIn K (.ref f15) = true)
    {f16 : Addr} {od16 an16 : Option Addr} {sl16 : Array (Option Value)} {oc16 kV16 dc16 pm16 cd16 ct16 : Value} (a16 : PySem.W.nsIn K mainGlobals "_law_value" = some (some (.ref f16))) (l16 : K.lookup f16 = some ⟨oc16, od16, .func (PySem.W.fnOf "_law_value" "_law_value" (defArgs s__law_value) (defBody s__law_value) (defScope s__law_value) .none kV16 dc16 pm16 an16 cd16 ct16), sl16⟩) (c16 : PySem.W.codeIn K cd16 "_law_value" = true) (k16 : PySem.W.keepIn K (.ref f16) = true)
    {f17 : Addr} {od17 an17 : Option Addr} {sl17 : Array (Option Value)} {oc17 kV17 dc17 pm17 cd17 ct17 : Value} (a17 : PySem.W.nsIn K mainGlobals "law" = some (some (.ref f17))) (l17 : K.lookup f17 = some ⟨oc17, od17, .func (PySem.W.fnOf "law" "law" (defArgs s_law) (defBody s_law) (defScope s_law) .none kV17 dc17 pm17 an17 cd17 ct17), sl17⟩) (c17 : PySem.W.codeIn K cd17 "law" = true) (k17 : PySem.W.keepIn K (.ref f17) = true)
    {t0 : Tok} (cn0 : PySem.W.nsIn K mainGlobals "TURN" = some (some (.int 1296000 t0)))
    {t1 : Tok} (cn1 : PySem.W.nsIn K mainGlobals "HALF_TURN" = some (some (.int 648000 t1)))
    {t2 : Tok} (cn2 : PySem.W.nsIn K mainGlobals "QUARTER" = some (some (.int 324000 t2)))
    {t3 : Tok} (cn3 : PySem.W.nsIn K mainGlobals "ARCH_TOP" = some (some (.int 314928000000 t3)))
    {t4 : Tok} (cn4 : PySem.W.nsIn K mainGlobals "ARCH_SCALE" = some (some (.int 68024448000 t4)))
    (z0 : PySem.W.nsIn K mainGlobals "abs" = some none)
    (z1 : PySem.W.nsIn K mainGlobals "bool" = some none)
    (z2 : PySem.W.nsIn K mainGlobals "int" = some none)
    (z3 : PySem.W.nsIn K mainGlobals "isinstance" = some none)
    (z4 : PySem.W.nsIn K mainGlobals "len" = some none)
    (z5 : PySem.W.nsIn K mainGlobals "max" = some none)
    (z6 : PySem.W.nsIn K mainGlobals "min" = some none)
    (z7 : PySem.W.nsIn K mainGlobals "range" = some none)
    (z8 : PySem.W.nsIn K mainGlobals "sum" = some none)
    (z9 : PySem.W.nsIn K mainGlobals "tuple" = some none)
    : ∃ fd : FuncData, (∀ (s : Shared) (v : Value), BindsTo s fd ⟨[v], []⟩ [("script", v)]) ∧ ∀ base : Heap, K.In base → base.Ns mainGlobals mg → FnOk l.prog w K mg base CX0 16 fa fd ["script"] (spLaw K) := by
  have e := hfa.symm.trans (PySem.W.mg_of X G a17)
  cases e
  have F0 := fun_mk (st := s_arch) l0 c0 k0
  have b0 : L2.Binds K _ ["u"] [] := F0.binds (ps := ["u"]) fun _ _ _ _ _ _ us hl => match us, hl with | [_], _ => rfl
  have F1 := fun_mk (st := s_wave) l1 c1 k1
  have b1 : L2.Binds K _ ["x"] [] := F1.binds (ps := ["x"]) fun _ _ _ _ _ _ us hl => match us, hl with | [_], _ => rfl
  have F2 := fun_mk (st := s_value) l2 c2 k2
  have b2 : L2.Binds K _ ["q", "t"] [] := F2.binds (ps := ["q", "t"]) fun _ _ _ _ _ _ us hl => match us, hl with | [_, _], _ => rfl
  have F3 := fun_mk (st := s_angle_value) l3 c3 k3
  have b3 : L2.Binds K _ ["a", "t"] [] := F3.binds (ps := ["a", "t"]) fun _ _ _ _ _ _ us hl => match us, hl with | [_, _], _ => rfl
  have F4 := fun_mk (st := s__law_start) l4 c4 k4
  have b4 : L2.Binds K _ ["script"] [] := F4.binds (ps := ["script"]) fun _ _ _ _ _ _ us hl => match us, hl with | [_], _ => rfl
  have F5 := fun_mk (st := s__law_draw) l5 c5 k5
  have b5 : L2.Binds K _ ["state", "bound"] [] := F5.binds (ps := ["state", "bound"]) fun _ _ _ _ _ _ us hl => match us, hl with | [_, _], _ => rfl
  have F6 := fun_mk (st := s__law_pick) l6 c6 k6
  have b6 : L2.Binds K _ ["state", "things"] [] := F6.binds (ps := ["state", "things"]) fun _ _ _ _ _ _ us hl => match us, hl with | [_, _], _ => rfl
  have F7 := fun_mk (st := s__law_is_number) l7 c7 k7
  have b7 : L2.Binds K _ ["thing"] [] := F7.binds (ps := ["thing"]) fun _ _ _ _ _ _ us hl => match us, hl with | [_], _ => rfl
  have F8 := fun_mk (st := s__law_is) l8 c8 k8
  have b8 : L2.Binds K _ ["actual", "due"] [] := F8.binds (ps := ["actual", "due"]) fun _ _ _ _ _ _ us hl => match us, hl with | [_, _], _ => rfl
  have F9 := fun_mk (st := s__law_number) l9 c9 k9
  have b9 : L2.Binds K _ ["state"] [] := F9.binds (ps := ["state"]) fun _ _ _ _ _ _ us hl => match us, hl with | [_], _ => rfl
  have F10 := fun_mk (st := s__law_divisor) l10 c10 k10
  have b10 : L2.Binds K _ ["state"] [] := F10.binds (ps := ["state"]) fun _ _ _ _ _ _ us hl => match us, hl with | [_], _ => rfl
  have F11 := fun_mk (st := s__law_angle) l11 c11 k11
  have b11 : L2.Binds K _ ["state", "deep"] [] := F11.binds (ps := ["state", "deep"]) fun _ _ _ _ _ _ us hl => match us, hl with | [_, _], _ => rfl
  have F12 := fun_mk (st := s__law_quantity) l12 c12 k12
  have b12 : L2.Binds K _ ["state", "deep"] [] := F12.binds (ps := ["state", "deep"]) fun _ _ _ _ _ _ us hl => match us, hl with | [_, _], _ => rfl
  have F13 := fun_mk (st := s__law_arch) l13 c13 k13
  have b13 : L2.Binds K _ ["u"] [] := F13.binds (ps := ["u"]) fun _ _ _ _ _ _ us hl => match us, hl with | [_], _ => rfl
  have F14 := fun_mk (st := s__law_wave) l14 c14 k14
  have b14 : L2.Binds K _ ["x"] [] := F14.binds (ps := ["x"]) fun _ _ _ _ _ _ us hl => match us, hl with | [_], _ => rfl
  have F15 := fun_mk (st := s__law_angle_at) l15 c15 k15
  have b15 : L2.Binds K _ ["a", "t"] [] := F15.binds (ps := ["a", "t"]) fun _ _ _ _ _ _ us hl => match us, hl with | [_, _], _ => rfl
  have F16 := fun_mk (st := s__law_value) l16 c16 k16
  have b16 : L2.Binds K _ ["q", "t"] [] := F16.binds (ps := ["q", "t"]) fun _ _ _ _ _ _ us hl => match us, hl with | [_, _], _ => rfl
  have F17 := fun_mk (st := s_law) l17 c17 k17
  have b17 : L2.Binds K _ ["script"] [] := F17.binds (ps := ["script"]) fun _ _ _ _ _ _ us hl => match us, hl with | [_], _ => rfl
  have T : Txt K mg := ⟨⟨_, PySem.W.mg_of X G cn0⟩, ⟨_, PySem.W.mg_of X G cn1⟩, ⟨_, PySem.W.mg_of X G cn2⟩, ⟨_, PySem.W.mg_of X G cn3⟩, ⟨_, PySem.W.mg_of X G cn4⟩, PySem.W.mg_none_of X G z0, PySem.W.mg_none_of X G z1, PySem.W.mg_none_of X G z2, PySem.W.mg_none_of X G z3, PySem.W.mg_none_of X G z4, PySem.W.mg_none_of X G z5, PySem.W.mg_none_of X G z6, PySem.W.mg_none_of X G z7, PySem.W.mg_none_of X G z8, PySem.W.mg_none_of X G z9, ⟨_, _, F0, PySem.W.mg_of X G a0, b0⟩, ⟨_, _, F1, PySem.W.mg_of X G a1, b1⟩, ⟨_, _, F2, PySem.W.mg_of X G a2, b2⟩, ⟨_, _, F3, PySem.W.mg_of X G a3, b3⟩, ⟨_, _, F4, PySem.W.mg_of X G a4, b4⟩, ⟨_, _, F5, PySem.W.mg_of X G a5, b5⟩, ⟨_, _, F6, PySem.W.mg_of X G a6, b6⟩, ⟨_, _, F7, PySem.W.mg_of X G a7, b7⟩, ⟨_, _, F8, PySem.W.mg_of X G a8, b8⟩, ⟨_, _, F9, PySem.W.mg_of X G a9, b9⟩, ⟨_, _, F10, PySem.W.mg_of X G a10, b10⟩, ⟨_, _, F11, PySem.W.mg_of X G a11, b11⟩, ⟨_, _, F12, PySem.W.mg_of X G a12, b12⟩, ⟨_, _, F13, PySem.W.mg_of X G a13, b13⟩, ⟨_, _, F14, PySem.W.mg_of X G a14, b14⟩, ⟨_, _, F15, PySem.W.mg_of X G a15, b15⟩, ⟨_, _, F16, PySem.W.mg_of X G a16, b16⟩, ⟨_, _, F17, PySem.W.mg_of X G a17, b17⟩⟩
  exact ⟨_, fun s v => .of_eq rfl, fun base _ _ => ok_law T F17⟩
end K03
open PySem PySem.W PyProof.Rows
set_option maxRecDepth 100000 in
set_option maxHeartbeats 0 in
theorem PySem.Challenge.cw_truealmanac_k03_values_holds : PySem.Challenge.rw_truealmanac_k03_values.Holds := by
  w_on; o_law; k_head; (case hw => w_witness2)
  k_fill
  refine L2.walk_of (l := PySem.Challenge.rw_truealmanac_k03_values) (n := 63) (k := 16) (x := "script") (CX := fun _ => L2.CX0) (sp := fun w => K03.spLaw _) rfl (by decide) rfl ⟨rfl, by decide, by decide⟩ (fun w h Y => PySem.W.kIn_of Y) ?F (fun _ _ a ns hl _ hS => ⟨a, ns, rfl, hS, hl, fun _ => rfl⟩) (fun _ _ _ _ _ h => h)
  case F =>
    intro w mg fa h KX G hmg
    refine' K03.all_mk KX G hmg ?a0 ?l0 ?c0 ?k0 ?a1 ?l1 ?c1 ?k1 ?a2 ?l2 ?c2 ?k2 ?a3 ?l3 ?c3 ?k3 ?a4 ?l4 ?c4 ?k4 ?a5 ?l5 ?c5 ?k5 ?a6 ?l6 ?c6 ?k6 ?a7 ?l7 ?c7 ?k7 ?a8 ?l8 ?c8 ?k8 ?a9 ?l9 ?c9 ?k9 ?a10 ?l10 ?c10 ?k10 ?a11 ?l11 ?c11 ?k11 ?a12 ?l12 ?c12 ?k12 ?a13 ?l13 ?c13 ?k13 ?a14 ?l14 ?c14 ?k14 ?a15 ?l15 ?c15 ?k15 ?a16 ?l16 ?c16 ?k16 ?a17 ?l17 ?c17 ?k17 ?cn0 ?cn1 ?cn2 ?cn3 ?cn4 ?z0 ?z1 ?z2 ?z3 ?z4 ?z5 ?z6 ?z7 ?z8 ?z9
    (case a0 => k_is); (case l0 => k_is); (case c0 => k_is); (case k0 => k_is); (case a1 => k_is); (case l1 => k_is)
    (case c1 => k_is); (case k1 => k_is); (case a2 => k_is); (case l2 => k_is); (case c2 => k_is); (case k2 => k_is)
    (case a3 => k_is); (case l3 => k_is); (case c3 => k_is); (case k3 => k_is); (case a4 => k_is); (case l4 => k_is)
    (case c4 => k_is); (case k4 => k_is); (case a5 => k_is); (case l5 => k_is); (case c5 => k_is); (case k5 => k_is)
    (case a6 => k_is); (case l6 => k_is); (case c6 => k_is); (case k6 => k_is); (case a7 => k_is); (case l7 => k_is)
    (case c7 => k_is); (case k7 => k_is); (case a8 => k_is); (case l8 => k_is); (case c8 => k_is); (case k8 => k_is)
    (case a9 => k_is); (case l9 => k_is); (case c9 => k_is); (case k9 => k_is); (case a10 => k_is); (case l10 => k_is)
    (case c10 => k_is); (case k10 => k_is); (case a11 => k_is); (case l11 => k_is); (case c11 => k_is); (case k11 => k_is)
    (case a12 => k_is); (case l12 => k_is); (case c12 => k_is); (case k12 => k_is); (case a13 => k_is); (case l13 => k_is)
    (case c13 => k_is); (case k13 => k_is); (case a14 => k_is); (case l14 => k_is); (case c14 => k_is); (case k14 => k_is)
    (case a15 => k_is); (case l15 => k_is); (case c15 => k_is); (case k15 => k_is); (case a16 => k_is); (case l16 => k_is)
    (case c16 => k_is); (case k16 => k_is); (case a17 => k_is); (case l17 => k_is); (case c17 => k_is); (case k17 => k_is)
    (case cn0 => k_is); (case cn1 => k_is); (case cn2 => k_is); (case cn3 => k_is); (case cn4 => k_is); (case z0 => k_is)
    (case z1 => k_is); (case z2 => k_is); (case z3 => k_is); (case z4 => k_is); (case z5 => k_is); (case z6 => k_is)
    (case z7 => k_is); (case z8 => k_is); (case z9 => k_is)
