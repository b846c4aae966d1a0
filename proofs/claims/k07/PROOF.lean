import PyProof.Rows.All
import Wide.All
import OpenK.AllK
import Wide.FinOn
import HandS.ForMost
import HandS.Wide
import HandS.IsInst
import HandS.More
import PySem.Challenge.RW_truealmanac_k07_whole_judge_of_papers
set_option Elab.async false
set_option linter.all false
set_option maxRecDepth 100000
namespace Rd
open PySem PySem.Spec PyProof.Rows L2
/-! ### what is kept: all but the object at d -/
def But (d : Addr) (H H' : Hp) : Prop := ∀ b o, b ≠ d → H b = some o → H' b = some o
theorem But.refl {d : Addr} {H : Hp} : But d H H := fun _ _ _ h => h
theorem But.trans {d : Addr} {H H1 H2 : Hp} (a : But d H H1) (b : But d H1 H2) : But d H H2 := fun c o n h => b c o n (a c o n h)
theorem But.of {d : Addr} {H H' : Hp} (s : Same H H') : But d H H' := fun b o _ h => s b o h
theorem But.put {d : Addr} {H : Hp} {o : HO} : But d H (upd H d o) := fun b u n h => by rw [upd_ne n]; exact h
theorem But.new {d p : Addr} {H : Hp} {o : HO} (h : H p = none) : But d H (upd H p o) := fun b u _ e => by rw [upd_ne (ne_of_none e h)]; exact e
theorem But.seqL {d : Addr} {K : PySem.W.Frag} {H H' : Hp} {a : Addr} {xs : List V} (n : a ≠ d) (e : But d H H') (h : SqL K H a xs) : SqL K H' a xs := by
  rcases h with (h | ⟨o, h⟩) | h
  · exact .inl (.inl (e _ _ n h))
  · exact .inl (.inr ⟨o, e _ _ n h⟩)
  · exact .inr h
theorem But.seqT {d : Addr} {K : PySem.W.Frag} {H H' : Hp} {a : Addr} {xs : List V} (n : a ≠ d) (e : But d H H') (h : SqT K H a xs) : SqT K H' a xs := by
  rcases h with (h | ⟨o, h⟩) | h
  · exact .inl (.inl (e _ _ n h))
  · exact .inl (.inr ⟨o, e _ _ n h⟩)
  · exact .inr h
theorem _root_.L2.Same.seqT {K : PySem.W.Frag} {H H' : Hp} {a : Addr} {xs : List V} (e : Same H H') (h : SqT K H a xs) : SqT K H' a xs := by
  rcases h with (h | ⟨o, h⟩) | h
  · exact .inl (.inl (e _ _ h))
  · exact .inl (.inr ⟨o, e _ _ h⟩)
  · exact .inr h
theorem Same.put {H : Hp} {p : Addr} {o : HO} (h : H p = none) : Same H (upd H p o) := fun b u e => by rw [upd_ne (ne_of_none e h)]; exact e
theorem keep {H : Hp} {a p : Addr} {o u : HO} (np : H p = none) (h : H a = some u) : (upd H p o) a = some u := by rw [upd_ne (ne_of_none h np)]; exact h
theorem keepN {H : Hp} {a p : Addr} {o u : HO} (np : a ≠ p) (h : H a = some u) : (upd H p o) a = some u := by rw [upd_ne np]; exact h
theorem free {H : Hp} {p D : Addr} {o : HO} (h : (upd H p o) D = none) : H D = none := by
  by_cases e : D = p
  · subst e
    rw [upd_same] at h
    cases h
  · rw [upd_ne e] at h
    exact h
theorem Same.mut {H H' : Hp} {D : Addr} {o : HO} (s : Same H H') (n : H D = none) : Same H (upd H' D o) := fun b u e => by rw [upd_ne (ne_of_none e n)]; exact s _ _ e
theorem But.mut {d : Addr} {H H' : Hp} {D : Addr} {o : HO} (s : But d H H') (n : H D = none) : But d H (upd H' D o) := fun b u k e => by rw [upd_ne (ne_of_none e n)]; exact s _ _ k e
theorem set_z {α : Type} {x y : α} {xs : List α} : (x :: xs).set 0 y = y :: xs := rfl
theorem set_s {α : Type} {x y : α} {n : Nat} {xs ys : List α} (h : xs.set n y = ys) : (x :: xs).set (n + 1) y = x :: ys := by rw [← h]; rfl
/-! ### steps of a reading -/
def BLK (x : V) (H : Hp) (QB : Bool → Hp → Prop) : Prop := ∃ k, x = .bl k ∧ QB k H
def INT (xs : List V) (H : Hp) (Q : VK) : Prop := (∃ i, xs = [.int i] ∧ Q (.int i) H) ∨ ∃ k, xs = [.bl k] ∧ Q (.int (if k then 1 else 0)) H
def ABS (xs : List V) (H : Hp) (Q : VK) : Prop := ∃ i, xs = [.int i] ∧ Q (.int (if i < 0 then -i else i)) H
def MIN2 (xs : List V) (H : Hp) (Q : VK) : Prop := ∃ i j, xs = [.int i, .int j] ∧ Q (.int (if j < i then j else i)) H
def MAX2 (xs : List V) (H : Hp) (Q : VK) : Prop := ∃ i j, xs = [.int i, .int j] ∧ Q (.int (if j > i then j else i)) H
def LEN (K : PySem.W.Frag) (xs : List V) (H : Hp) (Q : VK) : Prop := ∃ p ys, xs = [.ref p] ∧ (SqL K H p ys ∨ SqT K H p ys) ∧ Q (.int ys.length) H
def NEW (mk : List V → HO) (xs : List V) (H : Hp) (Q : VK) : Prop := xs.length ≤ sizeLine ∧ ∀ p, H p = none → Q (.ref p) (upd H p (mk xs))
def DG (x y : V) (H : Hp) (Q : VK) : Prop := ∃ a v, x = .ref a ∧ DGet H a y (some v) ∧ Q v H
def DP (x y v : V) (H : Hp) (N : Hp → Prop) : Prop := ∃ a H4, x = .ref a ∧ DPut H a y v H4 ∧ N H4
def CALL (sp : Sp) (vs : List V) (H : Hp) (Q : VK) (E : XK) : Prop := sp (vs ++ []) H Q E
def SLOT (nx : L2.St → Hp → Prop) (σ : L2.St) (H : Hp) : Prop := nx σ H
section
variable {K : PySem.W.Frag} {σ σ' : L2.St} {H H' : Hp} {Q : VK} {QB : Bool → Hp → Prop} {QA : List V → Hp → Prop} {ta tb te tc : TE} {t u : TT} {tr : TA} {i j : Int} {v x y : V} {nx bk ct : L2.St → Hp → Prop} {rt : VK} {s1 s2 : TS} {b : Bool}
theorem start {t : TS} {D : Ends} {σ σ' : L2.St} (e : σ = σ') (q : t D σ' H) : t D σ H := by rw [e]; exact q
theorem var {i : Nat} (h : σ[i]? = some (some v)) (q : Q v H) : tVar i σ H Q := ⟨v, h, q⟩
theorem cst (q : Q v H) : tC v σ H Q := q
theorem op {r : R2} (q : ta σ H fun x H1 => tb σ H1 fun y H2 => r x y H2 Q) : tOp r ta tb σ H Q := q
theorem un {r : V → Hp → VK → Prop} (q : ta σ H fun x H1 => r x H1 Q) : tUn r ta σ H Q := q
theorem i0 {g : Int → Int → V} (q : Q (g i j) H) : rI0 g (.int i) (.int j) H Q := ⟨i, j, rfl, rfl, q⟩
theorem i1 {C : Int → Int → Prop} {g : Int → Int → V} (c : C i j) (q : Q (g i j) H) : rI C g (.int i) (.int j) H Q := ⟨i, j, rfl, rfl, c, q⟩
theorem u1 {g : Int → V} (q : Q (g i) H) : rU g (.int i) H Q := ⟨i, rfl, q⟩
theorem eqI (q : Q (.bl (decide (i = j))) H) : rEq (.int i) (.int j) H Q := ⟨rfl, by
  have e : decide (V.int i = V.int j) = decide (i = j) := by
    by_cases h : i = j
    · rw [decide_eq_true h, decide_eq_true (congrArg V.int h)]
    · rw [decide_eq_false h, decide_eq_false (fun z => h (V.int.inj z))]
  rw [e]; exact q⟩
theorem neI (q : Q (.bl (!decide (i = j))) H) : rNe (.int i) (.int j) H Q := ⟨rfl, by
  have e : decide (V.int i = V.int j) = decide (i = j) := by
    by_cases h : i = j
    · rw [decide_eq_true h, decide_eq_true (congrArg V.int h)]
    · rw [decide_eq_false h, decide_eq_false (fun z => h (V.int.inj z))]
  rw [e]; exact q⟩
theorem eqB {a b : Bool} (q : Q (.bl (decide (a = b))) H) : rEq (.bl a) (.bl b) H Q := ⟨rfl, by
  have e : decide (V.bl a = V.bl b) = decide (a = b) := by
    by_cases h : a = b
    · rw [decide_eq_true h, decide_eq_true (congrArg V.bl h)]
    · rw [decide_eq_false h, decide_eq_false (fun z => h (V.bl.inj z))]
  rw [e]; exact q⟩
theorem eqS {a b : Str} (q : Q (.bl (decide (a = b))) H) : rEq (.str a) (.str b) H Q := ⟨rfl, by
  have e : decide (V.str a = V.str b) = decide (a = b) := by
    by_cases h : a = b
    · rw [decide_eq_true h, decide_eq_true (congrArg V.str h)]
    · rw [decide_eq_false h, decide_eq_false (fun z => h (V.str.inj z))]
  rw [e]; exact q⟩
theorem neS {a b : Str} (q : Q (.bl (!decide (a = b))) H) : rNe (.str a) (.str b) H Q := ⟨rfl, by
  have e : decide (V.str a = V.str b) = decide (a = b) := by
    by_cases h : a = b
    · rw [decide_eq_true h, decide_eq_true (congrArg V.str h)]
    · rw [decide_eq_false h, decide_eq_false (fun z => h (V.str.inj z))]
  rw [e]; exact q⟩
theorem tst (q : te σ H fun x H' => BLK x H' QB) : tTest te σ H QB := q
theorem tB (q : te σ H fun x H' => BLK x H' QB) : L2.tB te σ H QB := q
theorem blk (q : QB b H) : BLK (V.bl b) H QB := ⟨b, rfl, q⟩
theorem tnot (q : t σ H fun c H1 => QB (!c) H1) : tNot t σ H QB := q
theorem tand (q : t σ H fun c H1 => if c = true then u σ H1 QB else QB false H1) : tAnd t u σ H QB := q
theorem tor (q : t σ H fun c H1 => if c = true then QB true H1 else u σ H1 QB) : tOr t u σ H QB := q
theorem andV (q : ta σ H fun x H1 => BLK x H1 fun c H1 => if c = true then tb σ H1 Q else Q (.bl false) H1) : tAndV ta tb σ H Q := q
theorem orV (q : ta σ H fun x H1 => BLK x H1 fun c H1 => if c = true then Q (.bl true) H1 else tb σ H1 Q) : tOrV ta tb σ H Q := q
theorem notV (q : ta σ H fun x H1 => BLK x H1 fun c H1 => Q (.bl (!c)) H1) : tNotV ta σ H Q := q
theorem ifE (q : t σ H fun c H1 => if c = true then ta σ H1 Q else tb σ H1 Q) : tIf t ta tb σ H Q := q
theorem chain {r r' : R2} (q : ta σ H fun x H1 => tb σ H1 fun y H2 => r x y H2 fun z H3 => BLK z H3 fun k H3 => if k = true then tc σ H3 fun w' H4 => r' y w' H4 Q else Q (.bl false) H3) : tChain r r' ta tb tc σ H Q := q
theorem ite {c A B : Prop} [Decidable c] (h1 : c → A) (h2 : ¬ c → B) : if decide c = true then A else B := by
  by_cases h : c
  · rw [decide_eq_true h, if_pos rfl]; exact h1 h
  · rw [decide_eq_false h, if_neg Bool.false_ne_true]; exact h2 h
theorem iteN {c A B : Prop} [Decidable c] (h1 : c → B) (h2 : ¬ c → A) : if (!decide c) = true then A else B := by
  by_cases h : c
  · rw [decide_eq_true h]; exact iteF (h1 h)
  · rw [decide_eq_false h]; exact iteT (h2 h)
theorem iteP {c A B : Prop} [Decidable c] (h : c) (q : A) : if decide c = true then A else B := by rw [decide_eq_true h]; exact iteT q
theorem iteM {c A B : Prop} [Decidable c] (h : ¬ c) (q : B) : if decide c = true then A else B := by rw [decide_eq_false h]; exact iteF q
theorem iteNP {c A B : Prop} [Decidable c] (h : c) (q : B) : if (!decide c) = true then A else B := by rw [decide_eq_true h]; exact iteF q
theorem iteNM {c A B : Prop} [Decidable c] (h : ¬ c) (q : A) : if (!decide c) = true then A else B := by rw [decide_eq_false h]; exact iteT q
theorem iteNt {A B : Prop} (q : B) : if (!true) = true then A else B := q
theorem iteNf {A B : Prop} (q : A) : if (!false) = true then A else B := iteT q
theorem anil (q : QA [] H) : tNil σ H QA := q
theorem acons (q : te σ H fun x H1 => tr σ H1 fun xs H2 => QA (x :: xs) H2) : tCons te tr σ H QA := q
theorem cb {r : List V → Hp → VK → Prop} (q : tr σ H fun vs H1 => r vs H1 Q) : tCB r tr σ H Q := q
theorem call {sp : Sp} {E : XK} (q : tr σ H fun vs H1 => CALL sp vs H1 Q E) : tCall sp [] E tr σ H Q := q
theorem cbInt (q : tr σ H fun vs H1 => INT vs H1 Q) : tCB (fun xs H Q => (∃ i, xs = [.int i] ∧ Q (.int i) H) ∨ ∃ k, xs = [.bl k] ∧ Q (.int (if k then 1 else 0)) H) tr σ H Q := q
theorem int1 (q : Q (.int i) H) : INT [V.int i] H Q := .inl ⟨i, rfl, q⟩
theorem cbAbs (q : tr σ H fun vs H1 => ABS vs H1 Q) : tCB (fun xs H Q => ∃ i, xs = [.int i] ∧ Q (.int (if i < 0 then -i else i)) H) tr σ H Q := q
theorem abs1 (q : Q (.int (if i < 0 then -i else i)) H) : ABS [V.int i] H Q := ⟨i, rfl, q⟩
theorem cbMin (q : tr σ H fun vs H1 => MIN2 vs H1 Q) : tCB (fun xs H Q => ∃ i j, xs = [.int i, .int j] ∧ Q (.int (if j < i then j else i)) H) tr σ H Q := q
theorem min2 (q : Q (.int (if j < i then j else i)) H) : MIN2 [V.int i, V.int j] H Q := ⟨i, j, rfl, q⟩
theorem cbMax (q : tr σ H fun vs H1 => MAX2 vs H1 Q) : tCB (fun xs H Q => ∃ i j, xs = [.int i, .int j] ∧ Q (.int (if j > i then j else i)) H) tr σ H Q := q
theorem max2 (q : Q (.int (if j > i then j else i)) H) : MAX2 [V.int i, V.int j] H Q := ⟨i, j, rfl, q⟩
theorem cbLen (q : tr σ H fun vs H1 => LEN K vs H1 Q) : tCB (fun xs H Q => ∃ p ys, xs = [.ref p] ∧ (SqL K H p ys ∨ SqT K H p ys) ∧ Q (.int ys.length) H) tr σ H Q := q
theorem lenL {a : Addr} {xs : List V} (h : SqL K H a xs) (q : Q (.int xs.length) H) : LEN K [V.ref a] H Q := ⟨a, xs, rfl, .inl h, q⟩
theorem lenT {a : Addr} {xs : List V} (h : SqT K H a xs) (q : Q (.int xs.length) H) : LEN K [V.ref a] H Q := ⟨a, xs, rfl, .inr h, q⟩
theorem ixL {a : Addr} {xs : List V} (h : SqL K H a xs) (e : atI xs i = some v) (q : Q v H) : rIxL K (.ref a) (.int i) H Q := ⟨a, xs, i, v, rfl, rfl, h, e, q⟩
theorem ixT {a : Addr} {xs : List V} (h : SqT K H a xs) (e : atI xs i = some v) (q : Q v H) : rIxT K (.ref a) (.int i) H Q := ⟨a, xs, i, v, rfl, rfl, h, e, q⟩
theorem lst (q : tr σ H fun xs H1 => NEW HO.lst xs H1 Q) : tLst tr σ H Q := q
theorem tup (q : tr σ H fun xs H1 => NEW HO.tup xs H1 Q) : tTup tr σ H Q := q
theorem new {mk : List V → HO} {xs : List V} (h : xs.length ≤ 1000) (q : ∀ p, H p = none → Q (.ref p) (upd H p (mk xs))) : NEW mk xs H Q := ⟨Nat.le_of_lt (small1000 h), q⟩
theorem dget {td ty : TE} (q : td σ H fun x H1 => ty σ H1 fun y H2 => DG x y H2 Q) : tDGet td ty σ H Q := q
theorem dgetS {a : Addr} {kvs : List (Key × V)} {z : Str} (h : H a = some (.dK kvs)) (hv : valV kvs (Sum.inr z : Key) = some v) (q : Q v H) : DG (.ref a) (.str z) H Q :=
  ⟨a, v, rfl, by rw [← hv]; exact DGet.k (k := Sum.inr z) h, q⟩
theorem cmulL (h : -18446744073709551616 < i) (h2 : i < 18446744073709551616) : CMul i j := .inl ⟨by omega, by omega⟩
theorem cmulR (h : -18446744073709551616 < j) (h2 : j < 18446744073709551616) : CMul i j := .inr ⟨by omega, by omega⟩
theorem cpow (h : 0 ≤ j) (h2 : j ≤ 1000000) (h3 : i.natAbs < 18446744073709551616) : CPow i j := ⟨h, h2, by omega⟩
theorem cdiv (h : 0 < j) (h2 : j < 18446744073709551616) : CDivW i j := wide_div (b := 64) h (by omega) (by decide) (by decide)
/-! statements -/
theorem seq (q : s1 ⟨s2 ⟨nx, rt, bk, ct⟩, rt, bk, ct⟩ σ H) : tSeq s1 s2 ⟨nx, rt, bk, ct⟩ σ H := q
theorem nxt (q : nx σ H) : tNext ⟨nx, rt, bk, ct⟩ σ H := q
theorem asg {i : Nat} (q : te σ H fun x H1 => SLOT nx (σ.set i (some x)) H1) : tAsg te (gName i) ⟨nx, rt, bk, ct⟩ σ H := q
theorem slot {σ' : L2.St} (e : σ = σ') (q : nx σ' H) : SLOT nx σ H := by rw [e]; exact q
theorem slot0 {z y : Option V} {r : L2.St} (q : nx (y :: r) H) : SLOT nx (List.set (z :: r) 0 y) H := q
theorem slot1 {x0 z y : Option V} {r : L2.St} (q : nx (x0 :: y :: r) H) : SLOT nx (List.set (x0 :: z :: r) 1 y) H := q
theorem slot2 {x0 x1 z y : Option V} {r : L2.St} (q : nx (x0 :: x1 :: y :: r) H) : SLOT nx (List.set (x0 :: x1 :: z :: r) 2 y) H := q
theorem slot3 {x0 x1 x2 z y : Option V} {r : L2.St} (q : nx (x0 :: x1 :: x2 :: y :: r) H) : SLOT nx (List.set (x0 :: x1 :: x2 :: z :: r) 3 y) H := q
theorem slot4 {x0 x1 x2 x3 z y : Option V} {r : L2.St} (q : nx (x0 :: x1 :: x2 :: x3 :: y :: r) H) : SLOT nx (List.set (x0 :: x1 :: x2 :: x3 :: z :: r) 4 y) H := q
theorem slot5 {x0 x1 x2 x3 x4 z y : Option V} {r : L2.St} (q : nx (x0 :: x1 :: x2 :: x3 :: x4 :: y :: r) H) : SLOT nx (List.set (x0 :: x1 :: x2 :: x3 :: x4 :: z :: r) 5 y) H := q
theorem slot6 {x0 x1 x2 x3 x4 x5 z y : Option V} {r : L2.St} (q : nx (x0 :: x1 :: x2 :: x3 :: x4 :: x5 :: y :: r) H) : SLOT nx (List.set (x0 :: x1 :: x2 :: x3 :: x4 :: x5 :: z :: r) 6 y) H := q
theorem slot7 {x0 x1 x2 x3 x4 x5 x6 z y : Option V} {r : L2.St} (q : nx (x0 :: x1 :: x2 :: x3 :: x4 :: x5 :: x6 :: y :: r) H) : SLOT nx (List.set (x0 :: x1 :: x2 :: x3 :: x4 :: x5 :: x6 :: z :: r) 7 y) H := q
theorem slot8 {x0 x1 x2 x3 x4 x5 x6 x7 z y : Option V} {r : L2.St} (q : nx (x0 :: x1 :: x2 :: x3 :: x4 :: x5 :: x6 :: x7 :: y :: r) H) : SLOT nx (List.set (x0 :: x1 :: x2 :: x3 :: x4 :: x5 :: x6 :: x7 :: z :: r) 8 y) H := q
theorem slot9 {x0 x1 x2 x3 x4 x5 x6 x7 x8 z y : Option V} {r : L2.St} (q : nx (x0 :: x1 :: x2 :: x3 :: x4 :: x5 :: x6 :: x7 :: x8 :: y :: r) H) : SLOT nx (List.set (x0 :: x1 :: x2 :: x3 :: x4 :: x5 :: x6 :: x7 :: x8 :: z :: r) 9 y) H := q
theorem slot10 {x0 x1 x2 x3 x4 x5 x6 x7 x8 x9 z y : Option V} {r : L2.St} (q : nx (x0 :: x1 :: x2 :: x3 :: x4 :: x5 :: x6 :: x7 :: x8 :: x9 :: y :: r) H) : SLOT nx (List.set (x0 :: x1 :: x2 :: x3 :: x4 :: x5 :: x6 :: x7 :: x8 :: x9 :: z :: r) 10 y) H := q
theorem slot11 {x0 x1 x2 x3 x4 x5 x6 x7 x8 x9 x10 z y : Option V} {r : L2.St} (q : nx (x0 :: x1 :: x2 :: x3 :: x4 :: x5 :: x6 :: x7 :: x8 :: x9 :: x10 :: y :: r) H) : SLOT nx (List.set (x0 :: x1 :: x2 :: x3 :: x4 :: x5 :: x6 :: x7 :: x8 :: x9 :: x10 :: z :: r) 11 y) H := q
theorem slot12 {x0 x1 x2 x3 x4 x5 x6 x7 x8 x9 x10 x11 z y : Option V} {r : L2.St} (q : nx (x0 :: x1 :: x2 :: x3 :: x4 :: x5 :: x6 :: x7 :: x8 :: x9 :: x10 :: x11 :: y :: r) H) : SLOT nx (List.set (x0 :: x1 :: x2 :: x3 :: x4 :: x5 :: x6 :: x7 :: x8 :: x9 :: x10 :: x11 :: z :: r) 12 y) H := q
theorem slot13 {x0 x1 x2 x3 x4 x5 x6 x7 x8 x9 x10 x11 x12 z y : Option V} {r : L2.St} (q : nx (x0 :: x1 :: x2 :: x3 :: x4 :: x5 :: x6 :: x7 :: x8 :: x9 :: x10 :: x11 :: x12 :: y :: r) H) : SLOT nx (List.set (x0 :: x1 :: x2 :: x3 :: x4 :: x5 :: x6 :: x7 :: x8 :: x9 :: x10 :: x11 :: x12 :: z :: r) 13 y) H := q
theorem slot14 {x0 x1 x2 x3 x4 x5 x6 x7 x8 x9 x10 x11 x12 x13 z y : Option V} {r : L2.St} (q : nx (x0 :: x1 :: x2 :: x3 :: x4 :: x5 :: x6 :: x7 :: x8 :: x9 :: x10 :: x11 :: x12 :: x13 :: y :: r) H) : SLOT nx (List.set (x0 :: x1 :: x2 :: x3 :: x4 :: x5 :: x6 :: x7 :: x8 :: x9 :: x10 :: x11 :: x12 :: x13 :: z :: r) 14 y) H := q
theorem slot15 {x0 x1 x2 x3 x4 x5 x6 x7 x8 x9 x10 x11 x12 x13 x14 z y : Option V} {r : L2.St} (q : nx (x0 :: x1 :: x2 :: x3 :: x4 :: x5 :: x6 :: x7 :: x8 :: x9 :: x10 :: x11 :: x12 :: x13 :: x14 :: y :: r) H) : SLOT nx (List.set (x0 :: x1 :: x2 :: x3 :: x4 :: x5 :: x6 :: x7 :: x8 :: x9 :: x10 :: x11 :: x12 :: x13 :: x14 :: z :: r) 15 y) H := q
theorem slot16 {x0 x1 x2 x3 x4 x5 x6 x7 x8 x9 x10 x11 x12 x13 x14 x15 z y : Option V} {r : L2.St} (q : nx (x0 :: x1 :: x2 :: x3 :: x4 :: x5 :: x6 :: x7 :: x8 :: x9 :: x10 :: x11 :: x12 :: x13 :: x14 :: x15 :: y :: r) H) : SLOT nx (List.set (x0 :: x1 :: x2 :: x3 :: x4 :: x5 :: x6 :: x7 :: x8 :: x9 :: x10 :: x11 :: x12 :: x13 :: x14 :: x15 :: z :: r) 16 y) H := q
theorem slot17 {x0 x1 x2 x3 x4 x5 x6 x7 x8 x9 x10 x11 x12 x13 x14 x15 x16 z y : Option V} {r : L2.St} (q : nx (x0 :: x1 :: x2 :: x3 :: x4 :: x5 :: x6 :: x7 :: x8 :: x9 :: x10 :: x11 :: x12 :: x13 :: x14 :: x15 :: x16 :: y :: r) H) : SLOT nx (List.set (x0 :: x1 :: x2 :: x3 :: x4 :: x5 :: x6 :: x7 :: x8 :: x9 :: x10 :: x11 :: x12 :: x13 :: x14 :: x15 :: x16 :: z :: r) 17 y) H := q
theorem slot18 {x0 x1 x2 x3 x4 x5 x6 x7 x8 x9 x10 x11 x12 x13 x14 x15 x16 x17 z y : Option V} {r : L2.St} (q : nx (x0 :: x1 :: x2 :: x3 :: x4 :: x5 :: x6 :: x7 :: x8 :: x9 :: x10 :: x11 :: x12 :: x13 :: x14 :: x15 :: x16 :: x17 :: y :: r) H) : SLOT nx (List.set (x0 :: x1 :: x2 :: x3 :: x4 :: x5 :: x6 :: x7 :: x8 :: x9 :: x10 :: x11 :: x12 :: x13 :: x14 :: x15 :: x16 :: x17 :: z :: r) 18 y) H := q
theorem slot19 {x0 x1 x2 x3 x4 x5 x6 x7 x8 x9 x10 x11 x12 x13 x14 x15 x16 x17 x18 z y : Option V} {r : L2.St} (q : nx (x0 :: x1 :: x2 :: x3 :: x4 :: x5 :: x6 :: x7 :: x8 :: x9 :: x10 :: x11 :: x12 :: x13 :: x14 :: x15 :: x16 :: x17 :: x18 :: y :: r) H) : SLOT nx (List.set (x0 :: x1 :: x2 :: x3 :: x4 :: x5 :: x6 :: x7 :: x8 :: x9 :: x10 :: x11 :: x12 :: x13 :: x14 :: x15 :: x16 :: x17 :: x18 :: z :: r) 19 y) H := q
theorem slot20 {x0 x1 x2 x3 x4 x5 x6 x7 x8 x9 x10 x11 x12 x13 x14 x15 x16 x17 x18 x19 z y : Option V} {r : L2.St} (q : nx (x0 :: x1 :: x2 :: x3 :: x4 :: x5 :: x6 :: x7 :: x8 :: x9 :: x10 :: x11 :: x12 :: x13 :: x14 :: x15 :: x16 :: x17 :: x18 :: x19 :: y :: r) H) : SLOT nx (List.set (x0 :: x1 :: x2 :: x3 :: x4 :: x5 :: x6 :: x7 :: x8 :: x9 :: x10 :: x11 :: x12 :: x13 :: x14 :: x15 :: x16 :: x17 :: x18 :: x19 :: z :: r) 20 y) H := q
theorem slot21 {x0 x1 x2 x3 x4 x5 x6 x7 x8 x9 x10 x11 x12 x13 x14 x15 x16 x17 x18 x19 x20 z y : Option V} {r : L2.St} (q : nx (x0 :: x1 :: x2 :: x3 :: x4 :: x5 :: x6 :: x7 :: x8 :: x9 :: x10 :: x11 :: x12 :: x13 :: x14 :: x15 :: x16 :: x17 :: x18 :: x19 :: x20 :: y :: r) H) : SLOT nx (List.set (x0 :: x1 :: x2 :: x3 :: x4 :: x5 :: x6 :: x7 :: x8 :: x9 :: x10 :: x11 :: x12 :: x13 :: x14 :: x15 :: x16 :: x17 :: x18 :: x19 :: x20 :: z :: r) 21 y) H := q
theorem slot22 {x0 x1 x2 x3 x4 x5 x6 x7 x8 x9 x10 x11 x12 x13 x14 x15 x16 x17 x18 x19 x20 x21 z y : Option V} {r : L2.St} (q : nx (x0 :: x1 :: x2 :: x3 :: x4 :: x5 :: x6 :: x7 :: x8 :: x9 :: x10 :: x11 :: x12 :: x13 :: x14 :: x15 :: x16 :: x17 :: x18 :: x19 :: x20 :: x21 :: y :: r) H) : SLOT nx (List.set (x0 :: x1 :: x2 :: x3 :: x4 :: x5 :: x6 :: x7 :: x8 :: x9 :: x10 :: x11 :: x12 :: x13 :: x14 :: x15 :: x16 :: x17 :: x18 :: x19 :: x20 :: x21 :: z :: r) 22 y) H := q
theorem slot23 {x0 x1 x2 x3 x4 x5 x6 x7 x8 x9 x10 x11 x12 x13 x14 x15 x16 x17 x18 x19 x20 x21 x22 z y : Option V} {r : L2.St} (q : nx (x0 :: x1 :: x2 :: x3 :: x4 :: x5 :: x6 :: x7 :: x8 :: x9 :: x10 :: x11 :: x12 :: x13 :: x14 :: x15 :: x16 :: x17 :: x18 :: x19 :: x20 :: x21 :: x22 :: y :: r) H) : SLOT nx (List.set (x0 :: x1 :: x2 :: x3 :: x4 :: x5 :: x6 :: x7 :: x8 :: x9 :: x10 :: x11 :: x12 :: x13 :: x14 :: x15 :: x16 :: x17 :: x18 :: x19 :: x20 :: x21 :: x22 :: z :: r) 23 y) H := q
theorem ret (q : te σ H rt) : tRet te ⟨nx, rt, bk, ct⟩ σ H := q
theorem retN (q : rt .non H) : tRetN ⟨nx, rt, bk, ct⟩ σ H := q
theorem ifS (q : t σ H fun b H1 => if b = true then s1 ⟨nx, rt, bk, ct⟩ σ H1 else s2 ⟨nx, rt, bk, ct⟩ σ H1) : tIfS t s1 s2 ⟨nx, rt, bk, ct⟩ σ H := q
theorem drop (q : te σ H fun _ H1 => nx σ H1) : tDrop te ⟨nx, rt, bk, ct⟩ σ H := q
theorem brk (q : bk σ H) : tBreak ⟨nx, rt, bk, ct⟩ σ H := q
theorem cnt (q : ct σ H) : tCont ⟨nx, rt, bk, ct⟩ σ H := q
theorem dput {td ty tv : TE} (q : tv σ H fun v H1 => td σ H1 fun x H2 => ty σ H2 fun y H3 => DP x y v H3 (nx σ)) : sDPut td ty tv ⟨nx, rt, bk, ct⟩ σ H := q
theorem dputS {a : Addr} {kvs kvs' : List (Key × V)} {z : Str} (h : H a = some (.dK kvs)) (hl : kvs.length ≤ 1000) (e : putK kvs (Sum.inr z : Key) v = kvs') {N : Hp → Prop} (q : N (upd H a (.dK kvs'))) : DP (V.ref a) (.str z) v H N :=
  ⟨a, _, rfl, by rw [← e]; exact DPut.k (k := Sum.inr z) h (small1000 hl), q⟩
/-! displays, comprehensions, loops -/
def DISP (p : Addr) (ps : List (V × V)) (H : Hp) (Q : VK) : Prop := H p = some (.dK []) ∧ ∃ kvs : List (Key × V), ps = kvs.map (fun kv => (kV kv.1, kv.2)) ∧ kvs.length ≤ 15 ∧ Q (.ref p) (upd H p (.dK (mergeK [] kvs)))
theorem disp {trs : List (TE × TE)} (q : ∀ p, H p = none → tPairs trs σ (upd H p (.dK [])) fun ps H2 => DISP p ps H2 Q) : tDisp trs σ H Q := q
theorem pnil {QP : List (V × V) → Hp → Prop} (q : QP [] H) : tPairs [] σ H QP := q
theorem pcons {tk tv : TE} {r : List (TE × TE)} {QP : List (V × V) → Hp → Prop} (q : tk σ H fun x H1 => tv σ H1 fun y H2 => tPairs r σ H2 fun ps H3 => QP ((x, y) :: ps) H3) : tPairs ((tk, tv) :: r) σ H QP := q
theorem dispK {p : Addr} {ps : List (V × V)} (kvs : List (Key × V)) (h : H p = some (.dK [])) (e : ps = kvs.map (fun kv => (kV kv.1, kv.2))) (hl : kvs.length ≤ 15) (q : Q (.ref p) (upd H p (.dK (mergeK [] kvs)))) : DISP p ps H Q := ⟨h, kvs, e, hl, q⟩
def LCL (K : PySem.W.Frag) (g : TG) (tt : TT) (te : TE) (vs : List Nat) (σ : L2.St) (x : V) (H : Hp) (Q : VK) : Prop := tLc (iList K (tC x)) g tt te vs σ H Q
def LCT (K : PySem.W.Frag) (g : TG) (tt : TT) (te : TE) (vs : List Nat) (σ : L2.St) (x : V) (H : Hp) (Q : VK) : Prop := tLc (iTup K (tC x)) g tt te vs σ H Q
def LCN (D : Addr) (N : Hp → Prop) (y : V) (H : Hp) : Prop := ∃ acc, H D = some (.lst acc) ∧ acc.length < sizeLine ∧ N (upd H D (.lst (acc ++ [y])))
def WIP (a b : L2.St) (N : Prop) : Prop := a = b ∧ N
theorem lcl {tl : TE} {g : TG} {vs : List Nat} (q : tl σ H fun x H1 => LCL K g t te vs σ x H1 Q) : tLc (iList K tl) g t te vs σ H Q := q
theorem lct {tl : TE} {g : TG} {vs : List Nat} (q : tl σ H fun x H1 => LCT K g t te vs σ x H1 Q) : tLc (iTup K tl) g t te vs σ H Q := q
theorem lclGo {a : Addr} {xs : List V} {g : TG} {vs : List Nat} {σ0 : L2.St} (e0 : wipe σ vs = σ0) (hS : SqL K H a xs) (Pv : Addr → Nat → Hp → Prop) (h0 : ∀ D, H D = none → Pv D 0 (upd H D (.lst []))) (hl : ∀ D i H', i ≤ xs.length → Pv D i H' → SqL K H' a xs)
    (hs : ∀ D i x H', xs[i]? = some x → Pv D i H' → g x σ0 H' fun σ2 H2 => WIP (wipe σ2 vs) σ0 (t σ2 H2 fun b H3 => if b = true then te σ2 H3 fun y H4 => LCN D (Pv D (i + 1)) y H4 else Pv D (i + 1) H3))
    (hd : ∀ D H', H D = none → Pv D xs.length H' → Q (.ref D) H') : LCL K g t te vs σ (.ref a) H Q := by
  subst e0
  exact ⟨a, rfl, ⟨xs, hS⟩, fun D nD => lc_list (Pv D) (h0 D nD) (hl D) (hs D) (fun H' => hd D H' nD)⟩
theorem lctGo {a : Addr} {xs : List V} {g : TG} {vs : List Nat} {σ0 : L2.St} (e0 : wipe σ vs = σ0) (hS : SqT K H a xs) (Pv : Addr → Nat → Hp → Prop) (h0 : ∀ D, H D = none → Pv D 0 (upd H D (.lst []))) (hl : ∀ D i H', i ≤ xs.length → Pv D i H' → SqT K H' a xs)
    (hs : ∀ D i x H', xs[i]? = some x → Pv D i H' → g x σ0 H' fun σ2 H2 => WIP (wipe σ2 vs) σ0 (t σ2 H2 fun b H3 => if b = true then te σ2 H3 fun y H4 => LCN D (Pv D (i + 1)) y H4 else Pv D (i + 1) H3))
    (hd : ∀ D H', H D = none → Pv D xs.length H' → Q (.ref D) H') : LCT K g t te vs σ (.ref a) H Q := by
  subst e0
  exact ⟨a, rfl, ⟨xs, hS⟩, fun D nD => lc_tup (Pv D) (h0 D nD) (hl D) (hs D) (fun H' => hd D H' nD)⟩
theorem lcn {D : Addr} {acc : List V} {N : Hp → Prop} (h : H D = some (.lst acc)) (hl : acc.length ≤ 1000) (q : N (upd H D (.lst (acc ++ [v])))) : LCN D N v H := ⟨acc, h, small1000 hl, q⟩
theorem wip {a b : L2.St} {N : Prop} (e : a = b) (q : N) : WIP a b N := ⟨e, q⟩
theorem gname {i : Nat} {N : L2.St → Hp → Prop} (q : SLOT N (σ.set i (some v)) H) : gName i v σ H N := q
theorem yes (q : QB true H) : tYes σ H QB := q
def FORL (K : PySem.W.Frag) (g : TG) (tb : TS) (D : Ends) (σ : L2.St) (x : V) (H : Hp) : Prop := tFor (iList K (tC x)) g tb D σ H
def FORT (K : PySem.W.Frag) (g : TG) (tb : TS) (D : Ends) (σ : L2.St) (x : V) (H : Hp) : Prop := tFor (iTup K (tC x)) g tb D σ H
def RNG1 (g : TG) (tb : TS) (D : Ends) (σ : L2.St) (vs : List V) (H : Hp) : Prop := tFor (iRng1 fun _ H Q => Q vs H) g tb D σ H
def RNG2 (g : TG) (tb : TS) (D : Ends) (σ : L2.St) (vs : List V) (H : Hp) : Prop := tFor (iRng2 fun _ H Q => Q vs H) g tb D σ H
theorem forl {tl : TE} {g : TG} {D : Ends} (q : tl σ H fun x H1 => FORL K g s1 D σ x H1) : tFor (iList K tl) g s1 D σ H := q
theorem fort {tl : TE} {g : TG} {D : Ends} (q : tl σ H fun x H1 => FORT K g s1 D σ x H1) : tFor (iTup K tl) g s1 D σ H := q
theorem forr {g : TG} {D : Ends} (q : tr σ H fun x H1 => RNG1 g s1 D σ x H1) : tFor (iRng1 tr) g s1 D σ H := q
theorem forr2 {g : TG} {D : Ends} (q : tr σ H fun x H1 => RNG2 g s1 D σ x H1) : tFor (iRng2 tr) g s1 D σ H := q
theorem forlGo {a : Addr} {xs : List V} {g : TG} (hS : SqL K H a xs) (Pv : Nat → L2.St → Hp → Prop) (h0 : Pv 0 σ H) (hl : ∀ i σ H, i ≤ xs.length → Pv i σ H → SqL K H a xs)
    (hs : ∀ i x σ H, xs[i]? = some x → Pv i σ H → g x σ H fun σ2 H2 => s1 ⟨Pv (i + 1), rt, nx, Pv (i + 1)⟩ σ2 H2) (hd : ∀ σ H, Pv xs.length σ H → nx σ H) : FORL K g s1 ⟨nx, rt, bk, ct⟩ σ (.ref a) H :=
  ⟨a, rfl, ⟨xs, hS⟩, for_list Pv h0 hl hs hd⟩
theorem fortGo {a : Addr} {xs : List V} {g : TG} (hS : SqT K H a xs) (Pv : Nat → L2.St → Hp → Prop) (h0 : Pv 0 σ H) (hl : ∀ i σ H, i ≤ xs.length → Pv i σ H → SqT K H a xs)
    (hs : ∀ i x σ H, xs[i]? = some x → Pv i σ H → g x σ H fun σ2 H2 => s1 ⟨Pv (i + 1), rt, nx, Pv (i + 1)⟩ σ2 H2) (hd : ∀ σ H, Pv xs.length σ H → nx σ H) : FORT K g s1 ⟨nx, rt, bk, ct⟩ σ (.ref a) H :=
  ⟨a, rfl, ⟨xs, hS⟩, for_tup Pv h0 hl hs hd⟩
theorem rngGo {n : Int} {g : TG} (hn : n < 4611686018427387904) (Pv : Nat → L2.St → Hp → Prop) (h0 : Pv 0 σ H)
    (hs : ∀ (i : Nat) σ H, (i : Int) < n → Pv i σ H → g (.int i) σ H fun σ2 H2 => s1 ⟨Pv (i + 1), rt, nx, Pv (i + 1)⟩ σ2 H2) (hd : ∀ σ H, Pv n.toNat σ H → nx σ H) (hn0 : -4611686018427387904 ≤ n) : RNG1 g s1 ⟨nx, rt, bk, ct⟩ σ [.int n] H :=
  ⟨n, rfl, by omega, by omega, for_range (lo := 0) (n := n.toNat) Pv h0 (fun i σ' H' hi p => by
    have e0 : (0 : Int) + (i : Int) = (i : Int) := Int.zero_add _
    rw [e0]
    exact hs i σ' H' (by omega) p) hd⟩
theorem rng2Go {lo n : Int} {g : TG} (hn : -4611686018427387904 ≤ lo ∧ lo < 4611686018427387904 ∧ -4611686018427387904 ≤ n ∧ n < 4611686018427387904) (Pv : Nat → L2.St → Hp → Prop) (h0 : Pv 0 σ H)
    (hs : ∀ (i : Nat) σ H, lo + (i : Int) < n → Pv i σ H → g (.int (lo + i)) σ H fun σ2 H2 => s1 ⟨Pv (i + 1), rt, nx, Pv (i + 1)⟩ σ2 H2) (hd : ∀ σ H, Pv (n - lo).toNat σ H → nx σ H) : RNG2 g s1 ⟨nx, rt, bk, ct⟩ σ [.int lo, .int n] H :=
  ⟨lo, n, rfl, ⟨by omega, by omega, by omega, by omega⟩, for_range (lo := lo) (n := (n - lo).toNat) Pv h0 (fun i σ' H' hi p => hs i σ' H' (by omega) p) hd⟩
theorem isi {x : V} {ty : Value} {n : String} {b : Bool} (h : TyX K H x ty) (e : PySem.W.kitOne K ty (.type n) = some b) (q : Q (.bl b) H) : rIsi K [x, .ty n] H Q := ⟨x, .ty n, ty, .type n, b, rfl, .ty n, h, e, q⟩
/-! tuples, slices, sums, comprehensions that change nothing -/
theorem at0 {α : Type} {x : α} {xs : List α} : atI (x :: xs) 0 = some x := atI_nat (j := 0) rfl
theorem at1 {α : Type} {x y : α} {xs : List α} : atI (x :: y :: xs) 1 = some y := atI_nat (j := 1) rfl
theorem at2 {α : Type} {x y z : α} {xs : List α} : atI (x :: y :: z :: xs) 2 = some z := atI_nat (j := 2) rfl
theorem at3 {α : Type} {x y z u : α} {xs : List α} : atI (x :: y :: z :: u :: xs) 3 = some u := atI_nat (j := 3) rfl
theorem at4 {α : Type} {x y z u v : α} {xs : List α} : atI (x :: y :: z :: u :: v :: xs) 4 = some v := atI_nat (j := 4) rfl
def PART (x : V) (H : Hp) (QO : Option Int → Hp → Prop) : Prop := ∃ i, x = .int i ∧ QO (some i) H
theorem sl {r : V → Option Int → Option Int → Hp → VK → Prop} {tl th : TO} (q : te σ H fun x H1 => tl σ H1 fun l H2 => th σ H2 fun u H3 => r x l u H3 Q) : tSl r te tl th σ H Q := q
theorem part {QO : Option Int → Hp → Prop} (q : te σ H fun x H1 => PART x H1 QO) : tPart te σ H QO := q
theorem part1 {QO : Option Int → Hp → Prop} (q : QO (some i) H) : PART (.int i) H QO := ⟨i, rfl, q⟩
theorem nopart {QO : Option Int → Hp → Prop} (q : QO none H) : tNoPart σ H QO := q
theorem cut1 (x : V) (xs : List V) : cutV (x :: xs) (some 1) none = xs := by
  unfold cutV
  rw [show HT.sIx (x :: xs).length 0 (some 1) = min 1 (x :: xs).length from HT.sIx_nat _ 0 1, HT.sIx_none, List.length_cons, show min 1 (xs.length + 1) = 1 by omega]
  show List.take (xs.length + 1 - 1) xs = xs
  rw [Nat.add_sub_cancel]
  exact List.take_length
theorem slT1 {a : Addr} {xs : List V} (hS : SqT K H a (x :: xs)) (q : ∀ p, H p = none → Q (.ref p) (upd H p (.tup xs))) : rSlT K (.ref a) (some 1) none H Q := by
  refine ⟨a, _, rfl, hS, ?_, ?_⟩
  · intro z
    have h1 := z.1
    rw [show HT.sIx (x :: xs).length 0 (some 1) = min 1 (x :: xs).length from HT.sIx_nat _ 0 1, List.length_cons] at h1
    omega
  · rw [cut1]
    exact q
theorem slL1 {a : Addr} {xs : List V} (hS : SqL K H a (x :: xs)) (q : ∀ p, H p = none → Q (.ref p) (upd H p (.lst xs))) : rSlL K (.ref a) (some 1) none H Q := by
  refine ⟨a, _, rfl, hS, ?_⟩
  rw [cut1]
  exact q
theorem sum1 {a : Addr} {ns : List Int} (hS : SqL K H a (ns.map V.int)) (q : Q (.int ns.sum) H) : rSum K [.ref a] H Q := ⟨a, ns, rfl, hS, q⟩
theorem any1 {a : Addr} {bs : List Bool} (hS : SqL K H a (bs.map V.bl)) (q : Q (.bl (bs.any id)) H) : rAny K [.ref a] H Q := ⟨a, bs, rfl, hS, q⟩
theorem all1 {a : Addr} {bs : List Bool} (hS : SqL K H a (bs.map V.bl)) (q : Q (.bl (bs.all id)) H) : rAll K [.ref a] H Q := ⟨a, bs, rfl, hS, q⟩
theorem catT {a c : Addr} {xs ys : List V} (ha : SqT K H a (x :: xs)) (hc : SqT K H c (y :: ys)) (hl : xs.length + ys.length ≤ 900) (q : ∀ p, H p = none → Q (.ref p) (upd H p (.tup (x :: xs ++ y :: ys)))) : rCatT K (.ref a) (.ref c) H Q :=
  ⟨a, c, _, _, rfl, rfl, ha, hc, List.cons_ne_nil _ _, Nat.le_of_lt (small1000 (by rw [List.length_cons, List.length_cons]; omega)), fun z => absurd z (List.cons_ne_nil _ _), fun _ => q⟩
def TUPO (K : PySem.W.Frag) (xs : List V) (H : Hp) (Q : VK) : Prop := ∃ p ys, xs = [.ref p] ∧ ((SqL K H p ys ∧ ∀ l, H l = none → Q (.ref l) (upd H l (.tup ys))) ∨ (SqT K H p ys ∧ Q (.ref p) H))
theorem cbTup (q : tr σ H fun vs H1 => TUPO K vs H1 Q) : tCB (fun xs H Q => ∃ p ys, xs = [.ref p] ∧ ((SqL K H p ys ∧ ∀ l, H l = none → Q (.ref l) (upd H l (.tup ys))) ∨ (SqT K H p ys ∧ Q (.ref p) H))) tr σ H Q := q
theorem tupL {a : Addr} {xs : List V} (h : SqL K H a xs) (q : ∀ l, H l = none → Q (.ref l) (upd H l (.tup xs))) : TUPO K [.ref a] H Q := ⟨a, xs, rfl, .inl ⟨h, q⟩⟩
def LSTO (K : PySem.W.Frag) (xs : List V) (H : Hp) (Q : VK) : Prop := ∃ p ys, xs = [.ref p] ∧ (SqL K H p ys ∨ SqT K H p ys) ∧ ∀ l, H l = none → Q (.ref l) (upd H l (.lst ys))
theorem cbLst (q : tr σ H fun vs H1 => LSTO K vs H1 Q) : tCB (fun xs H Q => ∃ p ys, xs = [.ref p] ∧ (SqL K H p ys ∨ SqT K H p ys) ∧ ∀ l, H l = none → Q (.ref l) (upd H l (.lst ys))) tr σ H Q := q
theorem lstT {a : Addr} {xs : List V} (h : SqT K H a xs) (q : ∀ l, H l = none → Q (.ref l) (upd H l (.lst xs))) : LSTO K [.ref a] H Q := ⟨a, xs, rfl, .inr h, q⟩
theorem lstL {a : Addr} {xs : List V} (h : SqL K H a xs) (q : ∀ l, H l = none → Q (.ref l) (upd H l (.lst xs))) : LSTO K [.ref a] H Q := ⟨a, xs, rfl, .inl h, q⟩
theorem inI_eq (k : Int) : ∀ ns : List Int, inV (.int k) (ns.map V.int) = decide (k ∈ ns)
  | [] => by simp [inV]
  | n :: r => by
    have ih := inI_eq k r
    unfold inV at ih ⊢
    rw [List.map_cons, List.any_cons, ih]
    show ((n == k) || decide (k ∈ r)) = decide (k ∈ n :: r)
    by_cases h : k = n
    · subst h
      simp
    · have h2 : ¬ n = k := fun z => h z.symm
      simp [h, h2]
theorem inI {a : Addr} {xs : List V} (ns : List Int) {k : Int} (h : SqL K H a xs) (e : xs = ns.map V.int) (q : Q (.bl (decide (k ∈ ns))) H) : rIn K false (.int k) (.ref a) H Q := by
  subst e
  refine ⟨a, _, rfl, .inl h, rfl, ?_, ?_⟩
  · rw [List.all_map]
    exact List.all_eq_true.mpr fun _ _ => rfl
  · show Q (.bl (inV (.int k) (ns.map V.int))) H
    rw [inI_eq]
    exact q
theorem lcmap {D : Addr} {ys : List V} {i : Nat} {y : V} {H0 H' : Hp} (hl : ys.length ≤ 1000) (nD : H0 D = none) (e : ys[i]? = some y) (hD : H' D = some (.lst (ys.take i))) (sm : Same H0 H') :
    LCN D (fun H2 => H2 D = some (.lst (ys.take (i + 1))) ∧ Same H0 H2) y H' := by
  refine lcn hD (by rw [List.length_take]; omega) ⟨?_, Same.mut sm nD⟩
  rw [upd_same, List.take_add_one, e]
  rfl
/-- [te for x in a tuple], which makes ys and changes nothing -/
theorem lctMap {a : Addr} {xs ys : List V} {g : TG} {vs : List Nat} {σ0 : L2.St} (e0 : wipe σ vs = σ0) (hS : SqT K H a xs) (hl : ys.length = xs.length) (h1000 : ys.length ≤ 1000)
    (hs : ∀ (i : Nat) x y H' (N : VK), xs[i]? = some x → ys[i]? = some y → Same H H' → (∀ H4, Same H' H4 → N y H4) → g x σ0 H' fun σ2 H2 => WIP (wipe σ2 vs) σ0 (te σ2 H2 N))
    (hd : ∀ D H', H D = none → H' D = some (.lst ys) → Same H H' → Q (.ref D) H') : LCT K g tYes te vs σ (.ref a) H Q := by
  refine lctGo e0 hS (fun D i H' => H D = none ∧ H' D = some (.lst (ys.take i)) ∧ Same H H') (fun D nD => ⟨nD, upd_same, Same.put nD⟩) (fun D i H' _ h => h.2.2.seqT hS) (fun D i x H' hx h => ?_) (fun D H' nD h => hd D H' nD (by rw [← hl, List.take_length] at h; exact h.2.1) h.2.2)
  obtain ⟨nD, hD, sm⟩ := h
  have hi : i < ys.length := by rw [hl]; exact (List.getElem?_eq_some_iff.mp hx).1
  refine hs i x ys[i] H' _ hx (List.getElem?_eq_getElem hi) sm fun H4 s4 => ?_
  show LCN D _ ys[i] H4
  obtain ⟨acc, a1, a2, a3⟩ := lcmap (D := D) h1000 nD (List.getElem?_eq_getElem hi) (s4 _ _ hD) (sm.trans s4)
  exact ⟨acc, a1, a2, nD, a3⟩
theorem lclMap {a : Addr} {xs ys : List V} {g : TG} {vs : List Nat} {σ0 : L2.St} (e0 : wipe σ vs = σ0) (hS : SqL K H a xs) (hl : ys.length = xs.length) (h1000 : ys.length ≤ 1000)
    (hs : ∀ (i : Nat) x y H' (N : VK), xs[i]? = some x → ys[i]? = some y → Same H H' → (∀ H4, Same H' H4 → N y H4) → g x σ0 H' fun σ2 H2 => WIP (wipe σ2 vs) σ0 (te σ2 H2 N))
    (hd : ∀ D H', H D = none → H' D = some (.lst ys) → Same H H' → Q (.ref D) H') : LCL K g tYes te vs σ (.ref a) H Q := by
  refine lclGo e0 hS (fun D i H' => H D = none ∧ H' D = some (.lst (ys.take i)) ∧ Same H H') (fun D nD => ⟨nD, upd_same, Same.put nD⟩) (fun D i H' _ h => h.2.2.seq hS) (fun D i x H' hx h => ?_) (fun D H' nD h => hd D H' nD (by rw [← hl, List.take_length] at h; exact h.2.1) h.2.2)
  obtain ⟨nD, hD, sm⟩ := h
  have hi : i < ys.length := by rw [hl]; exact (List.getElem?_eq_some_iff.mp hx).1
  refine hs i x ys[i] H' _ hx (List.getElem?_eq_getElem hi) sm fun H4 s4 => ?_
  show LCN D _ ys[i] H4
  obtain ⟨acc, a1, a2, a3⟩ := lcmap (D := D) h1000 nD (List.getElem?_eq_getElem hi) (s4 _ _ hD) (sm.trans s4)
  exact ⟨acc, a1, a2, nD, a3⟩
def LCR1 (g : TG) (tt : TT) (te : TE) (vs : List Nat) (σ : L2.St) (xs : List V) (H : Hp) (Q : VK) : Prop := tLc (iRng1 fun _ H Q => Q xs H) g tt te vs σ H Q
theorem lcr1 {g : TG} {vs : List Nat} (q : tr σ H fun xs H1 => LCR1 g t te vs σ xs H1 Q) : tLc (iRng1 tr) g t te vs σ H Q := q
theorem lcr1Go {n : Int} {g : TG} {vs : List Nat} {σ0 : L2.St} (e0 : wipe σ vs = σ0) (hn : n < 4611686018427387904) (hn0 : -4611686018427387904 ≤ n) (Pv : Addr → Nat → Hp → Prop) (h0 : ∀ D, H D = none → Pv D 0 (upd H D (.lst [])))
    (hs : ∀ D (i : Nat) H', (i : Int) < n → Pv D i H' → g (.int i) σ0 H' fun σ2 H2 => WIP (wipe σ2 vs) σ0 (t σ2 H2 fun b H3 => if b = true then te σ2 H3 fun y H4 => LCN D (Pv D (i + 1)) y H4 else Pv D (i + 1) H3))
    (hd : ∀ D H', H D = none → Pv D n.toNat H' → Q (.ref D) H') : LCR1 g t te vs σ [.int n] H Q := by
  subst e0
  exact ⟨n, rfl, by omega, by omega, fun D nD => lc_range (lo := 0) (n := n.toNat) (Pv D) (h0 D nD) (fun i H' hi p => by
    have e0 : (0 : Int) + (i : Int) = (i : Int) := Int.zero_add _
    rw [e0]
    exact hs D i H' (by omega) p) (fun H' => hd D H' nD)⟩
theorem never {P : Program} {w : World} {mg : Str → Option Value} {base : Heap} {k : Nat} {f : Addr} {fd : FuncData} {ps : List Str} : FnOk P w K mg base CX0 k f fd ps (fun _ _ _ _ => False) := ⟨fun _ _ _ _ h => h.elim, fun _ _ _ _ _ _ _ _ _ _ _ _ _ h => h.elim⟩
/-! unpacking -/
def GTUP (K : PySem.W.Frag) (n : Nat) (gs : TGs) (x : V) (σ : L2.St) (H : Hp) (N : L2.St → Hp → Prop) : Prop := gTup K n gs x σ H N
theorem asgT {n : Nat} {gs : TGs} (q : te σ H fun x H1 => GTUP K n gs x σ H1 nx) : tAsg te (gTup K n gs) ⟨nx, rt, bk, ct⟩ σ H := q
theorem gtup {a : Addr} {xs : List V} {n : Nat} {gs : TGs} {N : L2.St → Hp → Prop} (hS : SqT K H a xs) (hl : xs.length = n) (q : gs xs σ H N) : GTUP K n gs (.ref a) σ H N := ⟨a, xs, rfl, hS, hl, q⟩
theorem gcons {g : TG} {gs : TGs} {r : List V} {N : L2.St → Hp → Prop} (q : g v σ H fun σ' H' => gs r σ' H' N) : gCons g gs (v :: r) σ H N := ⟨v, r, rfl, q⟩
theorem gnil {N : L2.St → Hp → Prop} (q : N σ H) : gNil [] σ H N := ⟨rfl, q⟩
theorem gtupV {n : Nat} {gs : TGs} {N : L2.St → Hp → Prop} (q : GTUP K n gs v σ H N) : gTup K n gs v σ H N := q
/-! dicts with ints, stores, methods of lists -/
theorem dnew (q : ∀ p, H p = none → Q (.ref p) (upd H p (.dK []))) : tDNewK σ H Q := q
def DN (y x : V) (H : Hp) (Q : VK) : Prop := ∃ a o, x = .ref a ∧ DGet H a y o ∧ Q (.bl (!o.isSome)) H
theorem dnotin {ty td : TE} (q : ty σ H fun y H1 => td σ H1 fun x H2 => DN y x H2 Q) : tDNotIn ty td σ H Q := q
theorem dnI {a : Addr} {kvs : List (Key × V)} {n : Int} (h : H a = some (.dK kvs)) (q : Q (.bl (!(valV kvs (Sum.inl n : Key)).isSome)) H) : DN (.int n) (.ref a) H Q := ⟨a, _, rfl, DGet.k (k := Sum.inl n) h, q⟩
theorem dgetI {a : Addr} {kvs : List (Key × V)} {n : Int} (h : H a = some (.dK kvs)) (hv : valV kvs (Sum.inl n : Key) = some v) (q : Q v H) : DG (.ref a) (.int n) H Q :=
  ⟨a, v, rfl, by rw [← hv]; exact DGet.k (k := Sum.inl n) h, q⟩
theorem dputI {a : Addr} {kvs : List (Key × V)} {n : Int} (h : H a = some (.dK kvs)) (hl : kvs.length ≤ 1000) {N : Hp → Prop} (q : N (upd H a (.dK (putK kvs (Sum.inl n : Key) v)))) : DP (V.ref a) (.int n) v H N :=
  ⟨a, _, rfl, DPut.k (k := Sum.inl n) h (small1000 hl), q⟩
def SETL (o i v : V) (H : Hp) (N : Hp → Prop) : Prop := rSetL o i v H N
theorem asgS {to ti : TE} (q : te σ H fun v H1 => to σ H1 fun o H2 => ti σ H2 fun i H3 => SETL o i v H3 (nx σ)) : tAsg te (gSub to ti rSetL) ⟨nx, rt, bk, ct⟩ σ H := q
theorem setL {a : Addr} {xs : List V} {k : Nat} {N : Hp → Prop} (h : H a = some (.lst xs)) (e : ixN xs.length i = some k) (q : N (upd H a (.lst (xs.set k v)))) : SETL (.ref a) (.int i) v H N := ⟨a, xs, i, k, rfl, rfl, h, e, q⟩
def BM (K : PySem.W.Frag) (T : String) (x : V) (H : Hp) (N : Prop) : Prop := tyV K T x H ∧ N
theorem bm {T : String} {r : V → List V → Hp → VK → Prop} {to : TE} (q : to σ H fun x H1 => BM K T x H1 (tr σ H1 fun xs H2 => r x xs H2 Q)) : tBM K T r to tr σ H Q := q
theorem bmL {a : Addr} {xs : List V} {N : Prop} (h : H a = some (.lst xs)) (q : N) : BM K "list" (.ref a) H N := ⟨.inl ⟨rfl, _, SqL.of h⟩, q⟩
theorem app {a : Addr} {xs : List V} (h : H a = some (.lst xs)) (hl : xs.length ≤ 1000) (q : Q .non (upd H a (.lst (xs ++ [y])))) : rAppend (.ref a) [y] H Q := ⟨a, xs, y, rfl, rfl, h, small1000 hl, q⟩
theorem popAt {a : Addr} {xs : List V} {k : Nat} (h : H a = some (.lst xs)) (h0 : 0 ≤ i) (h1 : i < 1000000) (e : seqIndex? i xs.length = some k) (hy : xs[k]? = some y) (q : Q y (upd H a (.lst (xs.eraseIdx k)))) : rPopAt (.ref a) [.int i] H Q := ⟨a, xs, i, k, y, rfl, rfl, h, by omega, by omega, e, hy, q⟩
def INS (x : V) (vs : List V) (H : Hp) (Q : VK) : Prop := ∃ (l : Addr) (xs : List V) (i : Int) (y : V), x = .ref l ∧ vs = [.int i, y] ∧ H l = some (.lst xs) ∧ xs.length < sizeLine ∧ 0 ≤ i ∧ i < 2 ^ 63 ∧ Q .non (upd H l (.lst (xs.take i.toNat ++ [y] ++ xs.drop i.toNat)))
theorem ins {a : Addr} {xs : List V} (h : H a = some (.lst xs)) (hl : xs.length ≤ 1000) (h0 : 0 ≤ i) (h1 : i < 1000000) (q : Q .non (upd H a (.lst (xs.take i.toNat ++ [y] ++ xs.drop i.toNat)))) : INS (.ref a) [.int i, y] H Q := ⟨a, xs, i, y, rfl, rfl, h, small1000 hl, h0, by omega, q⟩
theorem neB {a b : Bool} (q : Q (.bl (!decide (a = b))) H) : rNe (.bl a) (.bl b) H Q := ⟨rfl, by
  have e : decide (V.bl a = V.bl b) = decide (a = b) := by
    by_cases h : a = b
    · rw [decide_eq_true h, decide_eq_true (congrArg V.bl h)]
    · rw [decide_eq_false h, decide_eq_false (fun z => h (V.bl.inj z))]
  rw [e]; exact q⟩
def NOTN (x y : V) (H : Hp) (Q : VK) : Prop := y = .non ∧ Q (.bl (!decide (x = .non))) H
def ISN (x y : V) (H : Hp) (Q : VK) : Prop := y = .non ∧ Q (.bl (decide (x = .non))) H
theorem notn (q : ta σ H fun x H1 => tb σ H1 fun y H2 => NOTN x y H2 Q) : tOp (fun x y H Q => y = .non ∧ Q (.bl (!decide (x = .non))) H) ta tb σ H Q := q
theorem isn (q : ta σ H fun x H1 => tb σ H1 fun y H2 => ISN x y H2 Q) : tOp (fun x y H Q => y = .non ∧ Q (.bl (decide (x = .non))) H) ta tb σ H Q := q
theorem notnN (q : Q (.bl false) H) : NOTN .non .non H Q := ⟨rfl, by rw [decide_eq_true rfl]; exact q⟩
theorem notnB {b : Bool} (q : Q (.bl true) H) : NOTN (.bl b) .non H Q := ⟨rfl, by rw [decide_eq_false (fun z => by cases z)]; exact q⟩
theorem notnI {i : Int} (q : Q (.bl true) H) : NOTN (.int i) .non H Q := ⟨rfl, by rw [decide_eq_false (fun z => by cases z)]; exact q⟩
theorem isnN (q : Q (.bl true) H) : ISN .non .non H Q := ⟨rfl, by rw [decide_eq_true rfl]; exact q⟩
theorem isnI {i : Int} (q : Q (.bl false) H) : ISN (.int i) .non H Q := ⟨rfl, by rw [decide_eq_false (fun z => by cases z)]; exact q⟩
end
end Rd

namespace K07
open PySem PySem.Spec PyProof.Rows L2
/-! ### the draws -/
section
open Rd
abbrev stK (c : Addr) (a l m : Int) : List (Key × V) := [(.inr "cells", .ref c), (.inr "at", .int a), (.inr "left", .int l), (.inr "mix", .int m)]
def DrawS (H : Hp) (d c : Addr) : Prop := ∃ (a l m : Int) (cs : List Int), H d = some (.dK (stK c a l m)) ∧ H c = some (.lst (cs.map V.int)) ∧ 0 ≤ a ∧ 0 ≤ l ∧ 0 ≤ m ∧ m < 2147483648 ∧ ∀ x ∈ cs, 0 ≤ x
theorem DrawS.new {H : Hp} {d c p : Addr} {o : HO} (np : H p = none) (S : DrawS H d c) : DrawS (upd H p o) d c := by
  obtain ⟨a, l, m, cs, h1, h2, r⟩ := S
  exact ⟨a, l, m, cs, keep np h1, keep np h2, r⟩
theorem DrawS.ne {H : Hp} {d c a : Addr} {xs : List V} (S : DrawS H d c) (h : H a = some (.lst xs)) : a ≠ d := by
  obtain ⟨_, _, _, cs, h1, _⟩ := S
  exact ne_of h h1 (by intro z; cases z)
theorem DrawS.neT {H : Hp} {d c a : Addr} {xs : List V} (S : DrawS H d c) (h : H a = some (.tup xs)) : a ≠ d := by
  obtain ⟨_, _, _, cs, h1, _⟩ := S
  exact ne_of h h1 (by intro z; cases z)
theorem DrawS.neC {H : Hp} {d c D : Addr} (S : DrawS H d c) (n : H D = none) : c ≠ D := by
  obtain ⟨_, _, _, cs, _, h2, _⟩ := S
  exact ne_of_none h2 n
/-- a list that is not the cells grows -/
theorem DrawS.putL {H : Hp} {d c D : Addr} {xs ys : List V} (S : DrawS H d c) (h : H D = some (.lst xs)) (n : c ≠ D) : DrawS (upd H D (.lst ys)) d c := by
  have nd := S.ne h
  obtain ⟨a, l, m, cs, h1, h2, r⟩ := S
  exact ⟨a, l, m, cs, keepN nd.symm h1, keepN n h2, r⟩
theorem g_cells {c : Addr} {a l m : Int} : valV (stK c a l m) (Sum.inr "cells" : Key) = some (.ref c) := by rfl
theorem g_at {c : Addr} {a l m : Int} : valV (stK c a l m) (Sum.inr "at" : Key) = some (.int a) := by rfl
theorem g_left {c : Addr} {a l m : Int} : valV (stK c a l m) (Sum.inr "left" : Key) = some (.int l) := by rfl
theorem g_mix {c : Addr} {a l m : Int} : valV (stK c a l m) (Sum.inr "mix" : Key) = some (.int m) := by rfl
theorem p_at {c : Addr} {a l m n : Int} : putK (stK c a l m) (Sum.inr "at" : Key) (.int n) = stK c n l m := by rfl
theorem p_left {c : Addr} {a l m n : Int} : putK (stK c a l m) (Sum.inr "left" : Key) (.int n) = stK c a n m := by rfl
theorem p_mix {c : Addr} {a l m n : Int} : putK (stK c a l m) (Sum.inr "mix" : Key) (.int n) = stK c a l n := by rfl
theorem p_start {c : Addr} {m : Int} : mergeK [] [((.inr "cells" : Key), V.ref c), (.inr "at", .int 0), (.inr "left", .int 0), (.inr "mix", .int m)] = stK c 0 0 m := by rfl
end

/-! the reader: steps that need no word -/
local macro_rules | `(tactic| walk_at "hp") => `(tactic| first
  | with_reducible assumption
  | exact upd_same
  | (((with_reducible apply Rd.keep); (with_reducible assumption)); walk_at "hp"))
local macro_rules | `(tactic| walk_at "slot") => `(tactic| first | with_reducible apply Rd.slot0 | with_reducible apply Rd.slot1 | with_reducible apply Rd.slot2 | with_reducible apply Rd.slot3 | with_reducible apply Rd.slot4 | with_reducible apply Rd.slot5 | with_reducible apply Rd.slot6 | with_reducible apply Rd.slot7 | with_reducible apply Rd.slot8 | with_reducible apply Rd.slot9 | with_reducible apply Rd.slot10 | with_reducible apply Rd.slot11 | with_reducible apply Rd.slot12 | with_reducible apply Rd.slot13 | with_reducible apply Rd.slot14 | with_reducible apply Rd.slot15 | with_reducible apply Rd.slot16 | with_reducible apply Rd.slot17 | with_reducible apply Rd.slot18 | with_reducible apply Rd.slot19 | with_reducible apply Rd.slot20 | with_reducible apply Rd.slot21 | with_reducible apply Rd.slot22 | with_reducible apply Rd.slot23)
local macro_rules | `(tactic| walk_at "dg") => `(tactic| first | exact g_left | exact g_at | exact g_cells | exact g_mix)
local macro_rules | `(tactic| walk_at "dp") => `(tactic| first | exact p_left | exact p_at | exact p_mix)
local macro_rules | `(tactic| walk_at "le") => `(tactic| first | decide | (simp only [List.length_map, List.length_append]; omega) | omega)
local macro_rules | `(tactic| walk_at "side") => `(tactic| first
  | with_reducible assumption
  | exact Rd.cmulL (by omega) (by omega)
  | exact Rd.cmulR (by omega) (by omega)
  | exact Rd.cpow (by decide) (by decide) (by decide)
  | exact Rd.cdiv (by omega) (by omega)
  | omega)
local macro_rules | `(tactic| walk_at "sq") => `(tactic| first
  | with_reducible assumption
  | exact SqL.of (by walk_at "hp")
  | exact SqT.of (by walk_at "hp"))
local macro_rules | `(tactic| walk_at "at") => `(tactic| first | with_reducible assumption | exact Rd.at0 | exact Rd.at1 | exact Rd.at2 | exact Rd.at3 | exact Rd.at4)
local macro_rules | `(tactic| walk_at "rd") => `(tactic| repeat (first
  | ((with_reducible apply Rd.var); exact rfl)
  | with_reducible apply Rd.cst
  | with_reducible apply Rd.notn
  | with_reducible apply Rd.isn
  | with_reducible apply Rd.op
  | with_reducible apply Rd.un
  | with_reducible apply Rd.i0
  | with_reducible apply Rd.u1
  | with_reducible apply Rd.eqI
  | with_reducible apply Rd.neI
  | with_reducible apply Rd.eqB
  | with_reducible apply Rd.eqS
  | with_reducible apply Rd.neS
  | with_reducible apply Rd.tst
  | with_reducible apply Rd.tB
  | with_reducible apply Rd.blk
  | with_reducible apply iteF
  | with_reducible apply iteT
  | with_reducible apply Rd.iteNt
  | with_reducible apply Rd.iteNf
  | with_reducible apply Rd.tnot
  | with_reducible apply Rd.tand
  | with_reducible apply Rd.tor
  | with_reducible apply Rd.andV
  | with_reducible apply Rd.orV
  | with_reducible apply Rd.notV
  | with_reducible apply Rd.ifE
  | with_reducible apply Rd.chain
  | with_reducible apply Rd.anil
  | with_reducible apply Rd.acons
  | with_reducible apply Rd.cbInt
  | with_reducible apply Rd.cbAbs
  | with_reducible apply Rd.cbMin
  | with_reducible apply Rd.cbMax
  | with_reducible apply Rd.cbLen
  | ((with_reducible apply Rd.lenL); (walk_at "sq"))
  | ((with_reducible apply Rd.lenT); (walk_at "sq"))
  | with_reducible apply Rd.min2
  | with_reducible apply Rd.max2
  | with_reducible apply Rd.cbTup
  | with_reducible apply Rd.cbLst
  | with_reducible apply Rd.cb
  | ((with_reducible apply Rd.ixL); (walk_at "sq"); (walk_at "at"))
  | ((with_reducible apply Rd.ixT); (walk_at "sq"); (walk_at "at"))
  | with_reducible apply Rd.call
  | with_reducible apply Rd.int1
  | with_reducible apply Rd.abs1
  | with_reducible apply Rd.lst
  | with_reducible apply Rd.tup
  | with_reducible apply Rd.dget
  | with_reducible apply Rd.dput
  | ((with_reducible apply Rd.dgetS); (walk_at "hp"); (walk_at "dg"))
  | ((with_reducible apply Rd.dputS); (walk_at "hp"); (walk_at "le"); (walk_at "dp"))
  | ((with_reducible apply Rd.i1); (walk_at "side"))
  | with_reducible apply Rd.seq
  | with_reducible apply Rd.nxt
  | with_reducible apply Rd.asg
  | walk_at "slot"
  | with_reducible apply Rd.ret
  | with_reducible apply Rd.retN
  | with_reducible apply Rd.ifS
  | with_reducible apply Rd.drop
  | with_reducible apply Rd.brk
  | with_reducible apply Rd.cnt
  | with_reducible apply Rd.pcons
  | with_reducible apply Rd.pnil
  | with_reducible apply Rd.lcl
  | with_reducible apply Rd.lct
  | with_reducible apply Rd.gname
  | with_reducible apply Rd.yes
  | ((with_reducible apply Rd.wip); (exact rfl))
  | with_reducible apply Rd.forl
  | with_reducible apply Rd.fort
  | with_reducible apply Rd.forr
  | with_reducible apply Rd.forr2
  | with_reducible apply Rd.sl
  | with_reducible apply Rd.part
  | with_reducible apply Rd.part1
  | with_reducible apply Rd.nopart
  | with_reducible apply Rd.lcr1
  | with_reducible apply Rd.asgT
  | ((with_reducible apply Rd.gtup); (walk_at "sq"); (exact rfl))
  | with_reducible apply Rd.gcons
  | with_reducible apply Rd.gnil
  | with_reducible apply Rd.gtupV
  | with_reducible apply Rd.dnotin
  | ((with_reducible apply Rd.dnI); (walk_at "hp"))
  | ((with_reducible apply Rd.dgetI); (walk_at "hp"); (with_reducible assumption))
  | with_reducible apply Rd.asgS
  | with_reducible apply Rd.bm
  | ((with_reducible apply Rd.bmL); (walk_at "hp"))
  | with_reducible apply Rd.neB
  | with_reducible apply Rd.notnN
  | with_reducible apply Rd.notnB
  | with_reducible apply Rd.notnI
  | with_reducible apply Rd.isnN
  | with_reducible apply Rd.isnI))
local macro_rules | `(tactic| walk_at "dec") => `(tactic| first
  | ((with_reducible apply Rd.iteP); (first | with_reducible assumption | exact rfl | decide | omega))
  | ((with_reducible apply Rd.iteM); (first | with_reducible assumption | exact rfl | decide | omega))
  | ((with_reducible apply Rd.iteNP); (first | with_reducible assumption | exact rfl | decide | omega))
  | ((with_reducible apply Rd.iteNM); (first | with_reducible assumption | exact rfl | decide | omega)))
local macro_rules | `(tactic| walk_at "go") => `(tactic| (walk_at "rd"; (repeat (walk_at "dec"; walk_at "rd"))))
def topS (i : Nat) : Stmt := PySem.Challenge.pw_truealmanac_k07_whole_judge_of_papers.main.body.getD i (.Pass ⟨0, 0, 0, 0⟩)
abbrev s_reach : Stmt := topS 2
abbrev s_angle_reach : Stmt := topS 3
abbrev s__rounded_up : Stmt := topS 4
abbrev s__most_and_reach : Stmt := topS 5
abbrev s__uncapped : Stmt := topS 6
abbrev s__wave_reach : Stmt := topS 7
abbrev s_arch : Stmt := topS 14
abbrev s_wave : Stmt := topS 15
abbrev s_value : Stmt := topS 17
abbrev s_angle_value : Stmt := topS 18
abbrev s_takes : Stmt := topS 20
abbrev s_changes_of : Stmt := topS 21
abbrev s__covers : Stmt := topS 22
abbrev s__all_sure : Stmt := topS 23
abbrev s__law_start : Stmt := topS 25
abbrev s__law_draw : Stmt := topS 26
abbrev s__law_pick : Stmt := topS 27
abbrev s__law_is : Stmt := topS 29
abbrev s__law_wave_part : Stmt := topS 30
abbrev s__law_series : Stmt := topS 31
abbrev s__law_arch : Stmt := topS 32
abbrev s__law_wave : Stmt := topS 33
abbrev s__law_angle_at : Stmt := topS 34
abbrev s__law_value : Stmt := topS 35
abbrev s__law_up : Stmt := topS 36
abbrev s__law_most : Stmt := topS 37
abbrev s__law_angle_reach : Stmt := topS 38
abbrev s__law_reach : Stmt := topS 39
abbrev s__law_changes : Stmt := topS 40
abbrev s__law_sure : Stmt := topS 41
abbrev s__law_cells : Stmt := topS 42
abbrev s__law_spoil : Stmt := topS 43
abbrev s__law_takes : Stmt := topS 44
abbrev s_law : Stmt := topS 45
theorem sc_reach : FnScope ["q", "k"] ["q", "k"] (defScope s_reach) := ⟨rfl, rfl, rfl, by decide +kernel, rfl, by decide +kernel, by decide +kernel⟩
theorem sc_angle_reach : FnScope ["a", "k"] ["a", "k"] (defScope s_angle_reach) := ⟨rfl, rfl, rfl, by decide +kernel, rfl, by decide +kernel, by decide +kernel⟩
theorem sc__rounded_up : FnScope ["n", "d"] ["n", "d"] (defScope s__rounded_up) := ⟨rfl, rfl, rfl, by decide +kernel, rfl, by decide +kernel, by decide +kernel⟩
theorem sc__most_and_reach : FnScope ["q", "k", "top", "far"] ["q", "k"] (defScope s__most_and_reach) := ⟨rfl, rfl, rfl, by decide +kernel, rfl, by decide +kernel, by decide +kernel⟩
theorem sc__uncapped : FnScope ["q", "k", "word", "parts", "top", "far", "size", "other_top", "other_far", "v", "part"] ["q", "k"] (defScope s__uncapped) := ⟨rfl, rfl, rfl, by decide +kernel, rfl, by decide +kernel, by decide +kernel⟩
theorem sc__wave_reach : FnScope ["far"] ["far"] (defScope s__wave_reach) := ⟨rfl, rfl, rfl, by decide +kernel, rfl, by decide +kernel, by decide +kernel⟩
theorem sc_arch : FnScope ["u"] ["u"] (defScope s_arch) := ⟨rfl, rfl, rfl, by decide +kernel, rfl, by decide +kernel, by decide +kernel⟩
theorem sc_wave : FnScope ["x", "r"] ["x"] (defScope s_wave) := ⟨rfl, rfl, rfl, by decide +kernel, rfl, by decide +kernel, by decide +kernel⟩
theorem sc_value : FnScope ["q", "t", "word", "v"] ["q", "t"] (defScope s_value) := ⟨rfl, rfl, rfl, by decide +kernel, rfl, by decide +kernel, by decide +kernel⟩
theorem sc_angle_value : FnScope ["a", "t", "word"] ["a", "t"] (defScope s_angle_value) := ⟨rfl, rfl, rfl, by decide +kernel, rfl, by decide +kernel, by decide +kernel⟩
theorem sc_takes : FnScope ["q", "start", "end", "cells"] ["q", "start", "end", "cells"] (defScope s_takes) := ⟨rfl, rfl, rfl, by decide +kernel, rfl, by decide +kernel, by decide +kernel⟩
theorem sc_changes_of : FnScope ["q", "cells", "found", "was_up", "t", "_", "is_up"] ["q", "cells"] (defScope s_changes_of) := ⟨rfl, rfl, rfl, by decide +kernel, rfl, by decide +kernel, by decide +kernel⟩
theorem sc__covers : FnScope ["start", "end", "cells", "next_tick", "t", "k"] ["start", "end", "cells"] (defScope s__covers) := ⟨rfl, rfl, rfl, by decide +kernel, rfl, by decide +kernel, by decide +kernel⟩
theorem sc__all_sure : FnScope ["q", "cells", "known", "t", "k", "w", "sure"] ["q", "cells"] (defScope s__all_sure) := ⟨rfl, rfl, rfl, by decide +kernel, rfl, by decide +kernel, by decide +kernel⟩
theorem sc__law_start : FnScope ["script", "cell"] ["script"] (defScope s__law_start) := ⟨rfl, rfl, rfl, by decide +kernel, rfl, by decide +kernel, by decide +kernel⟩
theorem sc__law_draw : FnScope ["state", "bound", "cell", "number"] ["state", "bound"] (defScope s__law_draw) := ⟨rfl, rfl, rfl, by decide +kernel, rfl, by decide +kernel, by decide +kernel⟩
theorem sc__law_pick : FnScope ["state", "things"] ["state", "things"] (defScope s__law_pick) := ⟨rfl, rfl, rfl, by decide +kernel, rfl, by decide +kernel, by decide +kernel⟩
theorem sc__law_is : FnScope ["actual", "due"] ["actual", "due"] (defScope s__law_is) := ⟨rfl, rfl, rfl, by decide +kernel, rfl, by decide +kernel, by decide +kernel⟩
theorem sc__law_wave_part : FnScope ["state", "speed"] ["state"] (defScope s__law_wave_part) := ⟨rfl, rfl, rfl, by decide +kernel, rfl, by decide +kernel, by decide +kernel⟩
theorem sc__law_series : FnScope ["state", "parts", "k", "part", "kind"] ["state"] (defScope s__law_series) := ⟨rfl, rfl, rfl, by decide +kernel, rfl, by decide +kernel, by decide +kernel⟩
theorem sc__law_arch : FnScope ["u", "q"] ["u"] (defScope s__law_arch) := ⟨rfl, rfl, rfl, by decide +kernel, rfl, by decide +kernel, by decide +kernel⟩
theorem sc__law_wave : FnScope ["x"] ["x"] (defScope s__law_wave) := ⟨rfl, rfl, rfl, by decide +kernel, rfl, by decide +kernel, by decide +kernel⟩
theorem sc__law_angle_at : FnScope ["a", "t"] ["a", "t"] (defScope s__law_angle_at) := ⟨rfl, rfl, rfl, by decide +kernel, rfl, by decide +kernel, by decide +kernel⟩
theorem sc__law_value : FnScope ["q", "t", "part"] ["q", "t"] (defScope s__law_value) := ⟨rfl, rfl, rfl, by decide +kernel, rfl, by decide +kernel, by decide +kernel⟩
theorem sc__law_up : FnScope ["number", "divisor"] ["number", "divisor"] (defScope s__law_up) := ⟨rfl, rfl, rfl, by decide +kernel, rfl, by decide +kernel, by decide +kernel⟩
theorem sc__law_most : FnScope ["q", "part"] ["q"] (defScope s__law_most) := ⟨rfl, rfl, rfl, by decide +kernel, rfl, by decide +kernel, by decide +kernel⟩
theorem sc__law_angle_reach : FnScope ["a", "k"] ["a", "k"] (defScope s__law_angle_reach) := ⟨rfl, rfl, rfl, by decide +kernel, rfl, by decide +kernel, by decide +kernel⟩
theorem sc__law_reach : FnScope ["q", "k", "found", "distance", "change", "part"] ["q", "k"] (defScope s__law_reach) := ⟨rfl, rfl, rfl, by decide +kernel, rfl, by decide +kernel, by decide +kernel⟩
theorem sc__law_changes : FnScope ["q", "start", "end", "found", "before", "t", "now"] ["q", "start", "end"] (defScope s__law_changes) := ⟨rfl, rfl, rfl, by decide +kernel, rfl, by decide +kernel, by decide +kernel⟩
theorem sc__law_sure : FnScope ["q", "t", "k", "now"] ["q", "t", "k"] (defScope s__law_sure) := ⟨rfl, rfl, rfl, by decide +kernel, rfl, by decide +kernel, by decide +kernel⟩
theorem sc__law_cells : FnScope ["state", "q", "start", "end", "cells", "t", "step", "k", "room", "longer"] ["state", "q", "start", "end"] (defScope s__law_cells) := ⟨rfl, rfl, rfl, by decide +kernel, rfl, by decide +kernel, by decide +kernel⟩
theorem sc__law_spoil : FnScope ["state", "cells", "at", "t", "k", "kind", "after"] ["state", "cells"] (defScope s__law_spoil) := ⟨rfl, rfl, rfl, by decide +kernel, rfl, by decide +kernel, by decide +kernel⟩
theorem sc__law_takes : FnScope ["q", "start", "end", "cells", "t", "cell"] ["q", "start", "end", "cells"] (defScope s__law_takes) := ⟨rfl, rfl, rfl, by decide +kernel, rfl, by decide +kernel, by decide +kernel⟩
theorem sc_law : FnScope ["script", "state", "q", "start", "end", "cells", "k", "kept", "due"] ["script"] (defScope s_law) := ⟨rfl, rfl, rfl, by decide +kernel, rfl, by decide +kernel, by decide +kernel⟩
/-- what the top has left -/
structure Txt (K : PySem.W.Frag) (mg : Str → Option Value) : Prop where
  c_WAVE_MOST : ∃ t, mg "WAVE_MOST" = some (.int 1000000 t)
  c_TURN : ∃ t, mg "TURN" = some (.int 1296000 t)
  c_HALF_TURN : ∃ t, mg "HALF_TURN" = some (.int 648000 t)
  c_QUARTER : ∃ t, mg "QUARTER" = some (.int 324000 t)
  c_ARCH_TOP : ∃ t, mg "ARCH_TOP" = some (.int 314928000000 t)
  c_ARCH_SCALE : ∃ t, mg "ARCH_SCALE" = some (.int 68024448000 t)
  m_abs : mg "abs" = none
  m_bool : mg "bool" = none
  m_int : mg "int" = none
  m_isinstance : mg "isinstance" = none
  m_len : mg "len" = none
  m_list : mg "list" = none
  m_min : mg "min" = none
  m_range : mg "range" = none
  m_sum : mg "sum" = none
  m_tuple : mg "tuple" = none
  d_reach : ∃ (f : Addr) (fd : FuncData), Fun K "reach" "reach" s_reach f fd ∧ mg "reach" = some (.ref f) ∧ L2.Binds K fd ["q", "k"] []
  d_angle_reach : ∃ (f : Addr) (fd : FuncData), Fun K "angle_reach" "angle_reach" s_angle_reach f fd ∧ mg "angle_reach" = some (.ref f) ∧ L2.Binds K fd ["a", "k"] []
  d__rounded_up : ∃ (f : Addr) (fd : FuncData), Fun K "_rounded_up" "_rounded_up" s__rounded_up f fd ∧ mg "_rounded_up" = some (.ref f) ∧ L2.Binds K fd ["n", "d"] []
  d__most_and_reach : ∃ (f : Addr) (fd : FuncData), Fun K "_most_and_reach" "_most_and_reach" s__most_and_reach f fd ∧ mg "_most_and_reach" = some (.ref f) ∧ L2.Binds K fd ["q", "k"] []
  d__uncapped : ∃ (f : Addr) (fd : FuncData), Fun K "_uncapped" "_uncapped" s__uncapped f fd ∧ mg "_uncapped" = some (.ref f) ∧ L2.Binds K fd ["q", "k"] []
  d__wave_reach : ∃ (f : Addr) (fd : FuncData), Fun K "_wave_reach" "_wave_reach" s__wave_reach f fd ∧ mg "_wave_reach" = some (.ref f) ∧ L2.Binds K fd ["far"] []
  d_arch : ∃ (f : Addr) (fd : FuncData), Fun K "arch" "arch" s_arch f fd ∧ mg "arch" = some (.ref f) ∧ L2.Binds K fd ["u"] []
  d_wave : ∃ (f : Addr) (fd : FuncData), Fun K "wave" "wave" s_wave f fd ∧ mg "wave" = some (.ref f) ∧ L2.Binds K fd ["x"] []
  d_value : ∃ (f : Addr) (fd : FuncData), Fun K "value" "value" s_value f fd ∧ mg "value" = some (.ref f) ∧ L2.Binds K fd ["q", "t"] []
  d_angle_value : ∃ (f : Addr) (fd : FuncData), Fun K "angle_value" "angle_value" s_angle_value f fd ∧ mg "angle_value" = some (.ref f) ∧ L2.Binds K fd ["a", "t"] []
  d_takes : ∃ (f : Addr) (fd : FuncData), Fun K "takes" "takes" s_takes f fd ∧ mg "takes" = some (.ref f) ∧ L2.Binds K fd ["q", "start", "end", "cells"] []
  d_changes_of : ∃ (f : Addr) (fd : FuncData), Fun K "changes_of" "changes_of" s_changes_of f fd ∧ mg "changes_of" = some (.ref f) ∧ L2.Binds K fd ["q", "cells"] []
  d__covers : ∃ (f : Addr) (fd : FuncData), Fun K "covers" "covers" s__covers f fd ∧ mg "covers" = some (.ref f) ∧ L2.Binds K fd ["start", "end", "cells"] []
  d__all_sure : ∃ (f : Addr) (fd : FuncData), Fun K "_all_sure" "_all_sure" s__all_sure f fd ∧ mg "_all_sure" = some (.ref f) ∧ L2.Binds K fd ["q", "cells"] []
  d__law_start : ∃ (f : Addr) (fd : FuncData), Fun K "_law_start" "_law_start" s__law_start f fd ∧ mg "_law_start" = some (.ref f) ∧ L2.Binds K fd ["script"] []
  d__law_draw : ∃ (f : Addr) (fd : FuncData), Fun K "_law_draw" "_law_draw" s__law_draw f fd ∧ mg "_law_draw" = some (.ref f) ∧ L2.Binds K fd ["state", "bound"] []
  d__law_pick : ∃ (f : Addr) (fd : FuncData), Fun K "_law_pick" "_law_pick" s__law_pick f fd ∧ mg "_law_pick" = some (.ref f) ∧ L2.Binds K fd ["state", "things"] []
  d__law_is : ∃ (f : Addr) (fd : FuncData), Fun K "_law_is" "_law_is" s__law_is f fd ∧ mg "_law_is" = some (.ref f) ∧ L2.Binds K fd ["actual", "due"] []
  d__law_wave_part : ∃ (f : Addr) (fd : FuncData), Fun K "_law_wave_part" "_law_wave_part" s__law_wave_part f fd ∧ mg "_law_wave_part" = some (.ref f) ∧ L2.Binds K fd ["state"] []
  d__law_series : ∃ (f : Addr) (fd : FuncData), Fun K "_law_series" "_law_series" s__law_series f fd ∧ mg "_law_series" = some (.ref f) ∧ L2.Binds K fd ["state"] []
  d__law_arch : ∃ (f : Addr) (fd : FuncData), Fun K "_law_arch" "_law_arch" s__law_arch f fd ∧ mg "_law_arch" = some (.ref f) ∧ L2.Binds K fd ["u"] []
  d__law_wave : ∃ (f : Addr) (fd : FuncData), Fun K "_law_wave" "_law_wave" s__law_wave f fd ∧ mg "_law_wave" = some (.ref f) ∧ L2.Binds K fd ["x"] []
  d__law_angle_at : ∃ (f : Addr) (fd : FuncData), Fun K "_law_angle_at" "_law_angle_at" s__law_angle_at f fd ∧ mg "_law_angle_at" = some (.ref f) ∧ L2.Binds K fd ["a", "t"] []
  d__law_value : ∃ (f : Addr) (fd : FuncData), Fun K "_law_value" "_law_value" s__law_value f fd ∧ mg "_law_value" = some (.ref f) ∧ L2.Binds K fd ["q", "t"] []
  d__law_up : ∃ (f : Addr) (fd : FuncData), Fun K "_law_up" "_law_up" s__law_up f fd ∧ mg "_law_up" = some (.ref f) ∧ L2.Binds K fd ["number", "divisor"] []
  d__law_most : ∃ (f : Addr) (fd : FuncData), Fun K "_law_most" "_law_most" s__law_most f fd ∧ mg "_law_most" = some (.ref f) ∧ L2.Binds K fd ["q"] []
  d__law_angle_reach : ∃ (f : Addr) (fd : FuncData), Fun K "_law_angle_reach" "_law_angle_reach" s__law_angle_reach f fd ∧ mg "_law_angle_reach" = some (.ref f) ∧ L2.Binds K fd ["a", "k"] []
  d__law_reach : ∃ (f : Addr) (fd : FuncData), Fun K "_law_reach" "_law_reach" s__law_reach f fd ∧ mg "_law_reach" = some (.ref f) ∧ L2.Binds K fd ["q", "k"] []
  d__law_changes : ∃ (f : Addr) (fd : FuncData), Fun K "_law_changes" "_law_changes" s__law_changes f fd ∧ mg "_law_changes" = some (.ref f) ∧ L2.Binds K fd ["q", "start", "end"] []
  d__law_sure : ∃ (f : Addr) (fd : FuncData), Fun K "_law_sure" "_law_sure" s__law_sure f fd ∧ mg "_law_sure" = some (.ref f) ∧ L2.Binds K fd ["q", "t", "k"] []
  d__law_cells : ∃ (f : Addr) (fd : FuncData), Fun K "_law_cells" "_law_cells" s__law_cells f fd ∧ mg "_law_cells" = some (.ref f) ∧ L2.Binds K fd ["state", "q", "start", "end"] []
  d__law_spoil : ∃ (f : Addr) (fd : FuncData), Fun K "_law_spoil" "_law_spoil" s__law_spoil f fd ∧ mg "_law_spoil" = some (.ref f) ∧ L2.Binds K fd ["state", "cells"] []
  d__law_takes : ∃ (f : Addr) (fd : FuncData), Fun K "_law_takes" "_law_takes" s__law_takes f fd ∧ mg "_law_takes" = some (.ref f) ∧ L2.Binds K fd ["q", "start", "end", "cells"] []
  d_law : ∃ (f : Addr) (fd : FuncData), Fun K "law" "law" s_law f fd ∧ mg "law" = some (.ref f) ∧ L2.Binds K fd ["script"] []
section
open Rd
variable {P : Program} {w : World} {K : PySem.W.Frag} {mg : Str → Option Value} {base : Heap}
def spDraw : Sp := fun vs H Q _ => ∃ (d cc : Addr) (b : Int), vs = [.ref d, .int b] ∧ DrawS H d cc ∧ 0 < b ∧ b < 18446744073709551616 ∧
  ∀ n H', 0 ≤ n → n < b → DrawS H' d cc → But d H H' → Q (.int n) H'
theorem draw_end {H H' : Hp} {d c : Addr} {a l m a' l' m' n : Int} {b : Int} {cs : List Int} {Q : VK} (q : ∀ n H', 0 ≤ n → n < b → DrawS H' d c → But d H H' → Q (.int n) H') (h1 : H d = some (.dK (stK c a l m))) (h2 : H c = some (.lst (cs.map V.int))) (h3 : ∀ x ∈ cs, 0 ≤ x)
    (e : H' d = some (.dK (stK c a' l' m'))) (k : But d H H') (ha : 0 ≤ a') (hl : 0 ≤ l') (h0 : 0 ≤ m') (hm : m' < 2147483648) (hn : 0 ≤ n) (hb : n < b) : Q (.int n) H' := by
  have nc : c ≠ d := ne_of h2 h1 (by intro z; cases z)
  exact q n H' hn hb ⟨a', l', m', cs, e, k _ _ nc h2, ha, hl, h0, hm, h3⟩ k
set_option maxHeartbeats 4000000 in
theorem ok_draw (T : Txt K mg) : ∃ (f : Addr) (fd : FuncData), FnOk P w K mg base CX0 1 f fd ["state", "bound"] spDraw ∧ mg "_law_draw" = some (.ref f) ∧ PySem.W.keepIn K (.ref f) = true ∧ L2.Binds K fd ["state", "bound"] [] := by
  obtain ⟨f, fd, F, g, bi⟩ := T.d__law_draw
  refine ⟨f, fd, ?_, g, F.kp, bi⟩
  refine F.ok sc__law_draw (fun vs H Q E h => ?_) (fun cdv A outer s H vs Q E hr h => ?_)
  · obtain ⟨d, cc, n, rfl, _⟩ := h; rfl
  · obtain ⟨d, c, b, rfl, ⟨a, l, m, cs, hd, hc, ha, hl, hm0, hm1, hcs⟩, hb0, hb1, q⟩ := h
    have nc : c ≠ d := ne_of hc hd (by intro z; cases z)
    refine ⟨_, (pss_cons (ps_if (PW.pt (pw_and (pt_cmpR op_eq (pe_dget (hu_of hr) (pv 0) pe_str (fun _ _ => rfl)) pe_int (nomark _)) (pw_and1 (pt_cmpR op_lt (pe_dget (hu_of hr) (pv 0) pe_str (fun _ _ => rfl)) (pe_callB call_len_seq (by rfl) T.m_len (by decide +kernel) (pa_cons (pe_dget (hu_of hr) (pv 0) pe_str (fun _ _ => rfl)) pa_nil)) (nomark _))))) (pss_cons (ps_set (i := 2) sc__law_draw.nd rfl (by first | exact Or.inl rfl | exact Or.inr rfl) (pe_ix ix_list (pe_dget (hu_of hr) (pv 0) pe_str (fun _ _ => rfl)) (pe_dget (hu_of hr) (pv 0) pe_str (fun _ _ => rfl)) (fun _ _ => rfl)))
      (pss_cons (ps_dput (hu_of hr) (pv 0) pe_str (pe_op op_add (pe_dget (hu_of hr) (pv 0) pe_str (fun _ _ => rfl)) pe_int) rfl)
      (pss_cons (ps_dput (hu_of hr) (pv 0) pe_str (pe_op op_mod (pe_callTy call_int1 (by rfl) T.m_int (by decide +kernel) (pa_cons (pe_op op_add (pe_op op_add (pe_op op_mul (pe_dget (hu_of hr) (pv 0) pe_str (fun _ _ => rfl)) pe_int) (pv 2)) pe_int) pa_nil)) pe_int) rfl)
      (pss_cons (ps_if (pt_cmpR op_lt (pv 2) (pe_op op_pow pe_int pe_int) (nomark _)) (pss_one (ps_ret (pe_op op_mod (pe_callTy call_int1 (by rfl) T.m_int (by decide +kernel) (pa_cons (pv 2) pa_nil)) (pv 1)))) pss_nil)
      (pss_one (ps_dput (hu_of hr) (pv 0) pe_str (pv 2) rfl)))))) pss_nil)
      (pss_cons (ps_if (pt_cmpR op_gt (pe_dget (hu_of hr) (pv 0) pe_str (fun _ _ => rfl)) pe_int (nomark _)) (pss_cons (ps_set (i := 3) sc__law_draw.nd rfl (by first | exact Or.inl rfl | exact Or.inr rfl) (pe_op op_mod (pe_callTy call_int1 (by rfl) T.m_int (by decide +kernel) (pa_cons (pe_dget (hu_of hr) (pv 0) pe_str (fun _ _ => rfl)) pa_nil)) (pv 1)))
      (pss_cons (ps_dput (hu_of hr) (pv 0) pe_str (pe_op op_fdivW (pe_dget (hu_of hr) (pv 0) pe_str (fun _ _ => rfl)) (pv 1)) rfl)
      (pss_one (ps_ret (pv 3))))) pss_nil)
      (pss_cons (ps_dput (hu_of hr) (pv 0) pe_str (pe_op op_mod (pe_callTy call_int1 (by rfl) T.m_int (by decide +kernel) (pa_cons (pe_op op_add (pe_op op_mul (pe_dget (hu_of hr) (pv 0) pe_str (fun _ _ => rfl)) pe_int) pe_int) pa_nil)) pe_int) rfl)
      (pss_one (ps_ret (pe_op op_mod (pe_callTy call_int1 (by rfl) T.m_int (by decide +kernel) (pa_cons (pe_op op_mod (pe_callTy call_int1 (by rfl) T.m_int (by decide +kernel) (pa_cons (pe_op op_add (pe_op op_mul (pe_dget (hu_of hr) (pv 0) pe_str (fun _ _ => rfl)) pe_int) pe_int) pa_nil)) pe_int) pa_nil)) (pv 1))))))), ?_⟩
    refine Rd.start (σ' := [some (.ref d), some (.int b), none, none]) rfl ?_
    try dsimp only [cxOf, Cx.nox, Cx.wish]
    by_cases l0 : l = 0
    · subst l0
      by_cases hin : a < ((cs.map V.int).length : Int)
      · obtain ⟨z, hz, hz0⟩ : ∃ z, atI (cs.map V.int) a = some (.int z) ∧ 0 ≤ z := by
          have e : ((a.toNat : Nat) : Int) = a := by omega
          have hlt : a.toNat < cs.length := by rw [List.length_map] at hin; omega
          have h2 : atI (cs.map V.int) ((a.toNat : Nat) : Int) = some (.int cs[a.toNat]) := atI_nat (by rw [List.getElem?_map, List.getElem?_eq_getElem hlt]; rfl)
          rw [e] at h2
          exact ⟨cs[a.toNat], h2, hcs _ (List.getElem_mem hlt)⟩
        have e18 : (10 : Int) ^ Int.toNat 18 = 1000000000000000000 := by decide
        by_cases hb : z < (10 : Int) ^ Int.toNat 18
        · walk_at "go"
          exact draw_end q hd hc hcs upd_same (But.put.trans But.put) (by omega) (by omega) (Int.emod_nonneg _ (by decide)) (by have := Int.emod_lt_of_pos (m * 48271 + z + 11) (show (0 : Int) < 2147483647 by decide); omega) (Int.emod_nonneg _ (by omega)) (Int.emod_lt_of_pos _ hb0)
        · have hz1 : 0 < z := by omega
          have hzb : 0 ≤ z / b := Int.ediv_nonneg hz0 (by omega)
          walk_at "go"
          exact draw_end q hd hc hcs upd_same (((But.put.trans But.put).trans But.put).trans But.put) (by omega) hzb (Int.emod_nonneg _ (by decide)) (by have := Int.emod_lt_of_pos (m * 48271 + z + 11) (show (0 : Int) < 2147483647 by decide); omega) (Int.emod_nonneg _ (by omega)) (Int.emod_lt_of_pos _ hb0)
      · walk_at "go"
        exact draw_end q hd hc hcs upd_same But.put (by omega) (by omega) (Int.emod_nonneg _ (by decide)) (by have := Int.emod_lt_of_pos (m * 48271 + 11) (show (0 : Int) < 2147483647 by decide); omega) (Int.emod_nonneg _ (by omega)) (Int.emod_lt_of_pos _ hb0)
    · have hlb : 0 ≤ l / b := Int.ediv_nonneg hl (by omega)
      walk_at "go"
      exact draw_end q hd hc hcs upd_same But.put ha hlb hm0 hm1 (Int.emod_nonneg _ (by omega)) (Int.emod_lt_of_pos _ hb0)
theorem draw_go {H : Hp} {d cc : Addr} {b : Int} {Q : VK} {E : XK} (S : DrawS H d cc) (h0 : 0 < b) (h1 : b < 18446744073709551616) (q : ∀ n H', 0 ≤ n → n < b → DrawS H' d cc → But d H H' → Q (.int n) H') : CALL spDraw [.ref d, .int b] H Q E := ⟨d, cc, b, rfl, S, h0, h1, q⟩
def spPick : Sp := fun vs H Q _ => ∃ (d cc l : Addr) (xs : List V), vs = [.ref d, .ref l] ∧ DrawS H d cc ∧ H l = some (.lst xs) ∧ 0 < xs.length ∧ xs.length ≤ 1000 ∧
  ∀ x H', x ∈ xs → DrawS H' d cc → But d H H' → Q x H'
set_option maxHeartbeats 4000000 in
theorem ok_pick (T : Txt K mg) : ∃ (f : Addr) (fd : FuncData), FnOk P w K mg base CX0 2 f fd ["state", "things"] spPick ∧ mg "_law_pick" = some (.ref f) ∧ PySem.W.keepIn K (.ref f) = true ∧ L2.Binds K fd ["state", "things"] [] := by
  obtain ⟨f, fd, F, g, bi⟩ := T.d__law_pick
  obtain ⟨f__law_draw, fd__law_draw, G__law_draw, g__law_draw, kp__law_draw, b__law_draw⟩ := ok_draw (P := P) (w := w) (base := base) T
  refine ⟨f, fd, ?_, g, F.kp, bi⟩
  refine F.ok sc__law_pick (fun vs H Q E h => ?_) (fun cdv A outer s H vs Q E hr h => ?_)
  · obtain ⟨d, cc, n, xs, rfl, _⟩ := h; rfl
  · obtain ⟨d, cc, l, xs, rfl, S, hl, h0, h1, q⟩ := h
    refine ⟨_, (pss_one (ps_ret (pe_ix ix_list (pv 1) (pe_call G__law_draw (hr.mono (by omega)) (by rfl) g__law_draw kp__law_draw b__law_draw .nil pass0 (pa_cons (pv 0) (pa_cons (pe_callB call_len_seq (by rfl) T.m_len (by decide +kernel) (pa_cons (pv 1) pa_nil)) pa_nil))) (fun _ _ => rfl)))), ?_⟩
    refine Rd.start (σ' := [some (.ref d), some (.ref l)]) rfl ?_
    try dsimp only [cxOf, Cx.nox, Cx.wish]
    walk_at "go"
    refine draw_go S (by omega) (by omega) fun n H1 n0 n1 S1 B1 => ?_
    have hl1 : H1 l = some (.lst xs) := B1 _ _ (S.ne hl) hl
    have hlt : n.toNat < xs.length := by omega
    have hz : atI xs n = some xs[n.toNat] := by
      have e : ((n.toNat : Nat) : Int) = n := by omega
      have h2 : atI xs ((n.toNat : Nat) : Int) = some xs[n.toNat] := atI_nat (List.getElem?_eq_getElem hlt)
      rw [e] at h2
      exact h2
    walk_at "go"
    exact q _ H1 (List.getElem_mem hlt) S1 B1
theorem pick_go {H : Hp} {d l : Addr} {xs : List V} {Q : VK} {E : XK} (S : DrawS H d cc) (hl : H l = some (.lst xs)) (h0 : 0 < xs.length) (h1 : xs.length ≤ 1000) (q : ∀ x H', x ∈ xs → DrawS H' d cc → But d H H' → Q x H') : CALL spPick [.ref d, .ref l] H Q E := ⟨d, cc, l, xs, rfl, S, hl, h0, h1, q⟩
theorem pickD {H : Hp} {d cc : Addr} {xs : List V} {σ : L2.St} {Q : VK} {E : XK} (S : DrawS H d cc) (h0 : 0 < xs.length) (h1 : xs.length ≤ 1000) (q : ∀ x H', x ∈ xs → DrawS H' d cc → But d H H' → Q x H') :
    NEW HO.lst xs H fun v H1 => tNil σ H1 fun ys H2 => CALL spPick (V.ref d :: v :: ys) H2 Q E :=
  Rd.new h1 fun p np => pick_go (S.new np) upd_same h0 h1 fun x H' hx S' B' => q x H' hx S' ((But.new np).trans B')
theorem pickI {H : Hp} {d cc : Addr} {xs : List V} {σ : L2.St} {Q : VK} {E : XK} (ks : List Int) (lo hi : Int) (S : DrawS H d cc) (e : xs = ks.map V.int) (h0 : 0 < ks.length) (h1 : ks.length ≤ 1000) (hb : ∀ k ∈ ks, lo ≤ k ∧ k ≤ hi) (q : ∀ k H', k ∈ ks → lo ≤ k → k ≤ hi → DrawS H' d cc → But d H H' → Q (.int k) H') :
    NEW HO.lst xs H fun v H1 => tNil σ H1 fun ys H2 => CALL spPick (V.ref d :: v :: ys) H2 Q E := by
  subst e
  refine pickD S (by rw [List.length_map]; exact h0) (by rw [List.length_map]; exact h1) fun x H' hx S' B' => ?_
  obtain ⟨k, hk, rfl⟩ := List.mem_map.mp hx
  exact q k H' hk (hb k hk).1 (hb k hk).2 S' B'
def spStart (K : PySem.W.Frag) : Sp := fun vs H Q _ => ∃ (a : Addr) (ns : List Int), vs = [.ref a] ∧ SqL K H a (ns.map V.int) ∧ ns.length ≤ 63 ∧ ∀ d cc H', DrawS H' d cc → Same H H' → H d = none → Q (.ref d) H'
set_option maxHeartbeats 4000000 in
theorem ok_start (T : Txt K mg) : ∃ (f : Addr) (fd : FuncData), FnOk P w K mg base CX0 1 f fd ["script"] (spStart K) ∧ mg "_law_start" = some (.ref f) ∧ PySem.W.keepIn K (.ref f) = true ∧ L2.Binds K fd ["script"] [] := by
  obtain ⟨f, fd, F, g, bi⟩ := T.d__law_start
  refine ⟨f, fd, ?_, g, F.kp, bi⟩
  refine F.ok sc__law_start (fun vs H Q E h => ?_) (fun cdv A outer s H vs Q E hr h => ?_)
  · obtain ⟨a, ns, rfl, _⟩ := h; rfl
  · obtain ⟨a, ns, rfl, hS, hlen, q⟩ := h
    refine ⟨_, (pss_one (ps_ret (pe_disp (pps_cons pe_str (pe_lc (own := [("cell", 1)]) (g := gName 1) (tt := tYes) (by rfl) sc__law_start.nd (pi_list (pv 0)) (blkOk_by (own := [("cell", 1)]) (N := ["script", "cell"]) (sc := defScope s__law_start) (by decide +kernel)) (fun _ _ _ _ _ => (pg_name (i := 1) sc__law_start.nd rfl (Or.inl rfl))) (fun _ _ _ _ _ => pts_nil) (fun _ _ _ _ _ => (pe_callB call_abs (by rfl) T.m_abs (by decide +kernel) (pa_cons (pe_callTy call_int1 (by rfl) T.m_int (by decide +kernel) (pa_cons (pv 1) pa_nil)) pa_nil)))) (pps_cons pe_str pe_int (pps_cons pe_str pe_int (pps_cons pe_str (pe_op op_add pe_int (pe_callB call_len_seq (by rfl) T.m_len (by decide +kernel) (pa_cons (pv 0) pa_nil))) pps_nil)))) (by rfl) (by rfl) (fun z => by cases z) (by decide)))), ?_⟩
    refine Rd.start (σ' := [some (.ref a), none]) rfl ?_
    try dsimp only [cxOf, Cx.nox, Cx.wish]
    refine Rd.disp fun p np => ?_
    walk_at "go"
    have hS1 : SqL K (upd H p (.dK [])) a (ns.map V.int) := (Same.put np).seq hS
    refine Rd.lclGo (σ0 := [some (.ref a), none]) rfl hS1 (fun D i H' => p ≠ D ∧ H D = none ∧ H' D = some (.lst ((((ns.map fun z => if z < 0 then -z else z)).take i).map V.int)) ∧ H' p = some (.dK []) ∧ Same H H') (fun D nD => ⟨ne_of_none upd_same nD, free nD, upd_same, keep nD upd_same, (Same.put np).trans (Same.put nD)⟩) (fun D i H' _ h => h.2.2.2.2.seq hS) (fun D i x H' hx h => ?_) (fun D H' nD h => ?_)
    · obtain ⟨npD, nDH, hD, hp, sm⟩ := h
      have hil : i < ns.length := by
        have := (List.getElem?_eq_some_iff.mp hx).1
        rw [List.length_map] at this
        exact this
      rw [List.getElem?_map, List.getElem?_eq_getElem hil] at hx
      cases hx
      walk_at "go"
      refine Rd.lcn hD (by rw [List.length_map, List.length_take]; omega) ?_
      refine ⟨npD, nDH, ?_, keepN npD hp, Same.mut sm nDH⟩
      rw [upd_same, List.take_add_one, List.getElem?_map, List.getElem?_eq_getElem hil, List.map_append]
      rfl
    · obtain ⟨npD, nDH, hD, hp, sm⟩ := h
      have hS2 : SqL K H' a (ns.map V.int) := sm.seq hS
      have hcs : ∀ x ∈ ns.map (fun z => if z < 0 then -z else z), 0 ≤ x := by
        intro x hx
        obtain ⟨z, _, rfl⟩ := List.mem_map.mp hx
        split <;> omega
      rw [List.length_map, List.take_of_length_le (by rw [List.length_map]; omega)] at hD
      walk_at "go"
      refine Rd.dispK [((.inr "cells" : Key), V.ref D), (.inr "at", .int 0), (.inr "left", .int 0), (.inr "mix", .int (7 + ((ns.map V.int).length : Int)))] hp rfl (by simp) ?_
      rw [p_start]
      refine q p D _ ⟨0, 0, _, _, upd_same, keepN npD.symm hD, by omega, by omega, by omega, ?_, hcs⟩ (Same.mut sm np) np
      rw [List.length_map]
      omega
theorem start_go {H : Hp} {a : Addr} {ns : List Int} {Q : VK} {E : XK} (hS : SqL K H a (ns.map V.int)) (hl : ns.length ≤ 63) (q : ∀ d cc H', DrawS H' d cc → Same H H' → H d = none → Q (.ref d) H') : CALL (spStart K) [.ref a] H Q E := ⟨a, ns, rfl, hS, hl, q⟩
end

/-- the numerator -/
def f (u : Int) : Int := u * (314928000000 - u * u)
def arch (u : Int) : Int := f u / 68024448000
def wave (x : Int) : Int :=
  let r := x % 1296000
  if r < 324000 then arch r
  else if r < 648000 then arch (648000 - r)
  else if r < 972000 then -arch (r - 648000)
  else -arch (1296000 - r)
/-- the exact numerator of a wave -/
def W (x : Int) : Int :=
  let r := x % 1296000
  if r < 324000 then f r
  else if r < 648000 then f (648000 - r)
  else if r < 972000 then -f (r - 648000)
  else -f (1296000 - r)
theorem f_step (u : Int) : f (u + 1) - f u = 314928000000 - (3 * (u * u) + 3 * u + 1) := by
  unfold f; grind
theorem sq_le {u q : Int} (h0 : 0 ≤ u) (h : u ≤ q) : u * u ≤ q * q := Int.mul_le_mul h h h0 (by omega)
theorem f_up {u : Int} (h0 : 0 ≤ u) (h : u < 324000) : 0 ≤ f (u + 1) - f u ∧ f (u + 1) - f u ≤ 314928000000 := by
  rw [f_step]
  have h1 : u * u ≤ 323999 * 323999 := sq_le h0 (by omega)
  have h2 : 0 ≤ u * u := Int.mul_nonneg h0 h0
  omega
theorem f_nn {u : Int} (h0 : 0 ≤ u) (h : u ≤ 324000) : 0 ≤ f u := by
  have h1 : u * u ≤ 324000 * 324000 := sq_le h0 h
  exact Int.mul_nonneg h0 (by omega)
theorem f_le {u : Int} (h0 : 0 ≤ u) (h : u ≤ 324000) : f u ≤ 68024448000 * 1000000 := by
  have h1 : 0 ≤ (324000 - u) * (324000 - u) := Int.mul_nonneg (by omega) (by omega)
  have h2 : 0 ≤ ((324000 - u) * (324000 - u)) * (648000 + u) := Int.mul_nonneg h1 (by omega)
  unfold f
  grind
theorem arch_nn {u : Int} (h0 : 0 ≤ u) (h : u ≤ 324000) : 0 ≤ arch u := Int.ediv_nonneg (f_nn h0 h) (by decide)
theorem arch_le {u : Int} (h0 : 0 ≤ u) (h : u ≤ 324000) : arch u ≤ 1000000 := by
  have := f_le h0 h
  unfold arch
  omega
theorem arch_up {u : Int} (h0 : 0 ≤ u) (h : u < 324000) : arch u ≤ arch (u + 1) := by
  have := (f_up h0 h).1
  unfold arch
  omega
theorem arch_due (u : Int) : 1000000 * u * (3 * 324000 * 324000 - u * u) / (2 * 324000 * 324000 * 324000) = arch u := by
  have e : 1000000 * u * (3 * 324000 * 324000 - u * u) = 1000000 * f u := by unfold f; grind
  rw [e]
  unfold arch
  omega
theorem arch0 : arch 0 = 0 := by decide
theorem archq : arch 324000 = 1000000 := by decide
theorem wave_W (x : Int) : (0 ≤ W x ∧ wave x = W x / 68024448000) ∨ (W x ≤ 0 ∧ wave x = -((-W x) / 68024448000)) := by
  unfold wave W
  have h0 : 0 ≤ x % 1296000 := Int.emod_nonneg _ (by decide)
  have h1 : x % 1296000 < 1296000 := Int.emod_lt_of_pos _ (by decide)
  generalize x % 1296000 = r at *
  dsimp only
  by_cases a : r < 324000
  · rw [if_pos a, if_pos a]; exact .inl ⟨f_nn h0 (by omega), rfl⟩
  · rw [if_neg a, if_neg a]
    by_cases b : r < 648000
    · rw [if_pos b, if_pos b]; exact .inl ⟨f_nn (by omega) (by omega), rfl⟩
    · rw [if_neg b, if_neg b]
      by_cases c : r < 972000
      · rw [if_pos c, if_pos c]
        have := f_nn (u := r - 648000) (by omega) (by omega)
        refine .inr ⟨by omega, ?_⟩
        rw [Int.neg_neg]; rfl
      · rw [if_neg c, if_neg c]
        have := f_nn (u := 1296000 - r) (by omega) (by omega)
        refine .inr ⟨by omega, ?_⟩
        rw [Int.neg_neg]; rfl
theorem W_step (x : Int) : W (x + 1) - W x ≤ 314928000000 ∧ W x - W (x + 1) ≤ 314928000000 := by
  unfold W
  have h0 : 0 ≤ x % 1296000 := Int.emod_nonneg _ (by decide)
  have h1 : x % 1296000 < 1296000 := Int.emod_lt_of_pos _ (by decide)
  have h2 : (x + 1) % 1296000 = if x % 1296000 = 1295999 then 0 else x % 1296000 + 1 := by split <;> omega
  rw [h2]
  generalize x % 1296000 = r at *
  clear h2 x
  dsimp only
  have q1 : f 324000 = f (648000 - 324000) := by decide
  have z : f 0 = 0 := by decide
  by_cases a : r < 324000
  · have s := f_up h0 a
    rw [if_neg (show ¬ r = 1295999 by omega), if_pos a]
    by_cases b : r + 1 < 324000
    · rw [if_pos b]; omega
    · have e : r = 323999 := by omega
      subst e
      decide
  · rw [if_neg a]
    by_cases b : r < 648000
    · have s := f_up (u := 648000 - r - 1) (by omega) (by omega)
      rw [show 648000 - r - 1 + 1 = 648000 - r by omega] at s
      rw [if_neg (show ¬ r = 1295999 by omega), if_pos b, if_neg (show ¬ r + 1 < 324000 by omega)]
      by_cases c : r + 1 < 648000
      · rw [if_pos c, show 648000 - (r + 1) = 648000 - r - 1 by omega]; omega
      · have e : r = 647999 := by omega
        subst e
        decide
    · rw [if_neg b]
      by_cases c : r < 972000
      · have s := f_up (u := r - 648000) (by omega) (by omega)
        rw [show r - 648000 + 1 = r + 1 - 648000 by omega] at s
        rw [if_neg (show ¬ r = 1295999 by omega), if_pos c, if_neg (show ¬ r + 1 < 324000 by omega), if_neg (show ¬ r + 1 < 648000 by omega)]
        by_cases d : r + 1 < 972000
        · rw [if_pos d]; omega
        · have e : r = 971999 := by omega
          subst e
          decide
      · have s := f_up (u := 1296000 - r - 1) (by omega) (by omega)
        rw [show 1296000 - r - 1 + 1 = 1296000 - r by omega] at s
        rw [if_neg c]
        by_cases d : r = 1295999
        · subst d; decide
        · rw [if_neg d, if_neg (show ¬ r + 1 < 324000 by omega), if_neg (show ¬ r + 1 < 648000 by omega), if_neg (show ¬ r + 1 < 972000 by omega), show 1296000 - (r + 1) = 1296000 - r - 1 by omega]
          omega
theorem W_far (x : Int) : ∀ n : Nat, W (x + n) - W x ≤ 314928000000 * n ∧ W x - W (x + n) ≤ 314928000000 * n
  | 0 => by simp
  | n + 1 => by
    have h := W_far x n
    have s := W_step (x + n)
    have e : x + ((n + 1 : Nat) : Int) = x + n + 1 := by omega
    rw [e]
    omega
theorem W_lip (x y : Int) : W x - W y ≤ 314928000000 * (if x - y < 0 then -(x - y) else x - y) := by
  by_cases h : x - y < 0
  · rw [if_pos h]
    have a := (W_far x (y - x).toNat).2
    have e : ((y - x).toNat : Int) = y - x := by omega
    rw [e, show x + (y - x) = y by omega] at a
    omega
  · rw [if_neg h]
    have a := (W_far y (x - y).toNat).1
    have e : ((x - y).toNat : Int) = x - y := by omega
    rw [e, show y + (x - y) = x by omega] at a
    omega
theorem wave_lip (x y : Int) : wave x - wave y ≤ 125 * (if x - y < 0 then -(x - y) else x - y) / 27 + 1 := by
  have h := W_lip x y
  have hd : 0 ≤ (if x - y < 0 then -(x - y) else x - y) := by split <;> omega
  generalize (if x - y < 0 then -(x - y) else x - y) = d at *
  rcases wave_W x with ⟨a, e⟩ | ⟨a, e⟩ <;> rcases wave_W y with ⟨b, g⟩ | ⟨b, g⟩ <;> rw [e, g] <;> omega
theorem wave_most (x : Int) : -1000000 ≤ wave x ∧ wave x ≤ 1000000 := by
  unfold wave
  have h0 : 0 ≤ x % 1296000 := Int.emod_nonneg _ (by decide)
  have h1 : x % 1296000 < 1296000 := Int.emod_lt_of_pos _ (by decide)
  generalize x % 1296000 = r at *
  dsimp only
  by_cases a : r < 324000
  · rw [if_pos a]
    have := arch_nn h0 (by omega); have := arch_le h0 (by omega); omega
  · rw [if_neg a]
    by_cases b : r < 648000
    · rw [if_pos b]
      have := arch_nn (u := 648000 - r) (by omega) (by omega); have := arch_le (u := 648000 - r) (by omega) (by omega); omega
    · rw [if_neg b]
      by_cases c : r < 972000
      · rw [if_pos c]
        have := arch_nn (u := r - 648000) (by omega) (by omega); have := arch_le (u := r - 648000) (by omega) (by omega); omega
      · rw [if_neg c]
        have := arch_nn (u := 1296000 - r) (by omega) (by omega); have := arch_le (u := 1296000 - r) (by omega) (by omega); omega
theorem wave_turn (x : Int) : wave (x + 1296000) = wave x := by
  unfold wave
  rw [Int.add_emod_right]
theorem wave_half (x : Int) : wave (x + 648000) = -wave x := by
  unfold wave
  have h0 : 0 ≤ x % 1296000 := Int.emod_nonneg _ (by decide)
  have h1 : x % 1296000 < 1296000 := Int.emod_lt_of_pos _ (by decide)
  have h2 : (x + 648000) % 1296000 = if x % 1296000 < 648000 then x % 1296000 + 648000 else x % 1296000 - 648000 := by split <;> omega
  rw [h2]
  generalize x % 1296000 = r at *
  clear h2 x
  dsimp only
  by_cases a : r < 324000
  · rw [if_pos (show r < 648000 by omega), if_neg (show ¬ r + 648000 < 324000 by omega), if_neg (show ¬ r + 648000 < 648000 by omega), if_pos (show r + 648000 < 972000 by omega), if_pos a]
    rw [show r + 648000 - 648000 = r by omega]
  · by_cases b : r < 648000
    · rw [if_pos b, if_neg (show ¬ r + 648000 < 324000 by omega), if_neg (show ¬ r + 648000 < 648000 by omega), if_neg (show ¬ r + 648000 < 972000 by omega), if_neg a, if_pos b]
      rw [show 1296000 - (r + 648000) = 648000 - r by omega]
    · rw [if_neg b]
      by_cases c : r < 972000
      · rw [if_pos (show r - 648000 < 324000 by omega), if_neg a, if_neg b, if_pos c, Int.neg_neg]
      · rw [if_neg (show ¬ r - 648000 < 324000 by omega), if_pos (show r - 648000 < 648000 by omega), if_neg a, if_neg b, if_neg c, Int.neg_neg]
        rw [show 648000 - (r - 648000) = 1296000 - r by omega]
theorem wave_neg (x : Int) : wave (-x) = -wave x := by
  unfold wave
  have h0 : 0 ≤ x % 1296000 := Int.emod_nonneg _ (by decide)
  have h1 : x % 1296000 < 1296000 := Int.emod_lt_of_pos _ (by decide)
  have h2 : (-x) % 1296000 = if x % 1296000 = 0 then 0 else 1296000 - x % 1296000 := by split <;> omega
  rw [h2]
  generalize x % 1296000 = r at *
  clear h2 x
  dsimp only
  by_cases z : r = 0
  · subst z; decide
  rw [if_neg z]
  by_cases a : r < 324000
  · rw [if_neg (show ¬ 1296000 - r < 324000 by omega), if_neg (show ¬ 1296000 - r < 648000 by omega), if_neg (show ¬ 1296000 - r < 972000 by omega), if_pos a]
    rw [show 1296000 - (1296000 - r) = r by omega]
  · rw [if_neg a]
    by_cases b : r < 648000
    · rw [if_neg (show ¬ 1296000 - r < 324000 by omega), if_neg (show ¬ 1296000 - r < 648000 by omega), if_pos b]
      by_cases b' : r = 324000
      · subst b'; decide
      · rw [if_pos (show 1296000 - r < 972000 by omega), show 1296000 - r - 648000 = 648000 - r by omega]
    · rw [if_neg b]
      by_cases c : r < 972000
      · by_cases c' : r = 648000
        · subst c'; decide
        · rw [if_pos c, if_neg (show ¬ 1296000 - r < 324000 by omega), if_pos (show 1296000 - r < 648000 by omega), Int.neg_neg, show 648000 - (1296000 - r) = r - 648000 by omega]
      · rw [if_neg c]
        by_cases c' : r = 972000
        · subst c'; decide
        · rw [if_pos (show 1296000 - r < 324000 by omega), Int.neg_neg]
/-- the law's own wave -/
def lw (x : Int) : Int :=
  if x % 1296000 ≥ 648000 then -arch (if 1296000 - x % 1296000 < x % 1296000 - 648000 then 1296000 - x % 1296000 else x % 1296000 - 648000)
  else arch (if 648000 - x % 1296000 < x % 1296000 then 648000 - x % 1296000 else x % 1296000)
theorem lw_wave (x : Int) : lw x = wave x := by
  unfold wave lw
  have h0 : 0 ≤ x % 1296000 := Int.emod_nonneg _ (by decide)
  have h1 : x % 1296000 < 1296000 := Int.emod_lt_of_pos _ (by decide)
  generalize x % 1296000 = r at *
  clear x
  dsimp only
  by_cases a : r < 324000
  · rw [if_pos a, if_neg (show ¬ r ≥ 648000 by omega), if_neg (show ¬ 648000 - r < r by omega)]
  · rw [if_neg a]
    by_cases b : r < 648000
    · rw [if_pos b, if_neg (show ¬ r ≥ 648000 by omega)]
      by_cases e : r = 324000
      · subst e; decide
      · rw [if_pos (show 648000 - r < r by omega)]
    · rw [if_neg b, if_pos (show r ≥ 648000 by omega)]
      by_cases c : r < 972000
      · rw [if_pos c, if_neg (show ¬ 1296000 - r < r - 648000 by omega)]
      · rw [if_neg c]
        by_cases e : r = 972000
        · subst e; decide
        · rw [if_pos (show 1296000 - r < r - 648000 by omega)]


section
open Rd
variable {P : Program} {w : World} {K : PySem.W.Frag} {mg : Str → Option Value} {base : Heap}
def spWave : Sp := fun vs H Q _ => ∃ x : Int, vs = [.int x] ∧ Q (.int (wave x)) H
theorem wave_go {H : Hp} {x : Int} {Q : VK} {E : XK} (q : Q (.int (wave x)) H) : CALL spWave [.int x] H Q E := ⟨x, rfl, q⟩
end


section
open Rd
variable {P : Program} {w : World} {K : PySem.W.Frag} {mg : Str → Option Value} {base : Heap}
def spArch : Sp := fun vs H Q _ => ∃ u : Int, vs = [.int u] ∧ -18446744073709551616 < u ∧ u < 18446744073709551616 ∧ Q (.int (arch u)) H
set_option maxHeartbeats 4000000 in
theorem ok_arch (T : Txt K mg) : ∃ (f : Addr) (fd : FuncData), FnOk P w K mg base CX0 1 f fd ["u"] spArch ∧ mg "arch" = some (.ref f) ∧ PySem.W.keepIn K (.ref f) = true ∧ L2.Binds K fd ["u"] [] := by
  obtain ⟨f, fd, F, g, bi⟩ := T.d_arch
  obtain ⟨_, cARCH_TOP⟩ := T.c_ARCH_TOP
  obtain ⟨_, cARCH_SCALE⟩ := T.c_ARCH_SCALE
  refine ⟨f, fd, ?_, g, F.kp, bi⟩
  refine F.ok sc_arch (fun vs H Q E h => ?_) (fun cdv A outer s H vs Q E hr h => ?_)
  · obtain ⟨u, rfl, _⟩ := h; rfl
  · obtain ⟨u, rfl, h0, h1, q⟩ := h
    refine ⟨_, (pss_one (ps_ret (pe_op op_fdivW (pe_op op_mul (pv 0) (pe_op op_sub (pe_glob (v := .int (314928000000)) rfl cARCH_TOP ⟨_, rfl⟩) (pe_op op_mul (pv 0) (pv 0)))) (pe_glob (v := .int (68024448000)) rfl cARCH_SCALE ⟨_, rfl⟩)))), ?_⟩
    refine Rd.start (σ' := [some (.int u)]) rfl ?_
    try dsimp only [cxOf, Cx.nox, Cx.wish]
    walk_at "go"
    exact q
theorem arch_go {H : Hp} {u : Int} {Q : VK} {E : XK} (h0 : -18446744073709551616 < u) (h1 : u < 18446744073709551616) (q : Q (.int (arch u)) H) : CALL spArch [.int u] H Q E := ⟨u, rfl, h0, h1, q⟩
set_option maxHeartbeats 4000000 in
theorem ok_wave (T : Txt K mg) : ∃ (f : Addr) (fd : FuncData), FnOk P w K mg base CX0 2 f fd ["x"] spWave ∧ mg "wave" = some (.ref f) ∧ PySem.W.keepIn K (.ref f) = true ∧ L2.Binds K fd ["x"] [] := by
  obtain ⟨f, fd, F, g, bi⟩ := T.d_wave
  obtain ⟨_, cTURN⟩ := T.c_TURN
  obtain ⟨_, cQUARTER⟩ := T.c_QUARTER
  obtain ⟨_, cHALF_TURN⟩ := T.c_HALF_TURN
  obtain ⟨f_arch, fd_arch, G_arch, g_arch, kp_arch, b_arch⟩ := ok_arch (P := P) (w := w) (base := base) T
  refine ⟨f, fd, ?_, g, F.kp, bi⟩
  refine F.ok sc_wave (fun vs H Q E h => ?_) (fun cdv A outer s H vs Q E hr h => ?_)
  · obtain ⟨x, rfl, _⟩ := h; rfl
  · obtain ⟨x, rfl, q⟩ := h
    refine ⟨_, (pss_cons (ps_set (i := 1) sc_wave.nd rfl (by first | exact Or.inl rfl | exact Or.inr rfl) (pe_op op_mod (pv 0) (pe_glob (v := .int (1296000)) rfl cTURN ⟨_, rfl⟩)))
      (pss_cons (ps_if (pt_cmpR op_lt (pv 1) (pe_glob (v := .int (324000)) rfl cQUARTER ⟨_, rfl⟩) (nomark _)) (pss_one (ps_ret (pe_call G_arch (hr.mono (by omega)) (by rfl) g_arch kp_arch b_arch .nil pass0 (pa_cons (pv 1) pa_nil)))) pss_nil)
      (pss_cons (ps_if (pt_cmpR op_lt (pv 1) (pe_glob (v := .int (648000)) rfl cHALF_TURN ⟨_, rfl⟩) (nomark _)) (pss_one (ps_ret (pe_call G_arch (hr.mono (by omega)) (by rfl) g_arch kp_arch b_arch .nil pass0 (pa_cons (pe_op op_sub (pe_glob (v := .int (648000)) rfl cHALF_TURN ⟨_, rfl⟩) (pv 1)) pa_nil)))) pss_nil)
      (pss_cons (ps_if (pt_cmpR op_lt (pv 1) (pe_op op_add (pe_glob (v := .int (648000)) rfl cHALF_TURN ⟨_, rfl⟩) (pe_glob (v := .int (324000)) rfl cQUARTER ⟨_, rfl⟩)) (nomark _)) (pss_one (ps_ret (pe_un un_neg (pe_call G_arch (hr.mono (by omega)) (by rfl) g_arch kp_arch b_arch .nil pass0 (pa_cons (pe_op op_sub (pv 1) (pe_glob (v := .int (648000)) rfl cHALF_TURN ⟨_, rfl⟩)) pa_nil))))) pss_nil)
      (pss_one (ps_ret (pe_un un_neg (pe_call G_arch (hr.mono (by omega)) (by rfl) g_arch kp_arch b_arch .nil pass0 (pa_cons (pe_op op_sub (pe_glob (v := .int (1296000)) rfl cTURN ⟨_, rfl⟩) (pv 1)) pa_nil))))))))), ?_⟩
    refine Rd.start (σ' := [some (.int x), none]) rfl ?_
    try dsimp only [cxOf, Cx.nox, Cx.wish]
    have h0 : 0 ≤ x % 1296000 := Int.emod_nonneg _ (by decide)
    have h1 : x % 1296000 < 1296000 := Int.emod_lt_of_pos _ (by decide)
    unfold wave at q
    dsimp only at q
    by_cases a : x % 1296000 < 324000
    · rw [if_pos a] at q
      walk_at "go"
      refine arch_go (by omega) (by omega) ?_
      exact q
    · rw [if_neg a] at q
      by_cases b : x % 1296000 < 648000
      · rw [if_pos b] at q
        walk_at "go"
        refine arch_go (by omega) (by omega) ?_
        exact q
      · rw [if_neg b] at q
        by_cases c : x % 1296000 < 972000
        · rw [if_pos c] at q
          walk_at "go"
          refine arch_go (by omega) (by omega) ?_
          walk_at "go"
          exact q
        · rw [if_neg c] at q
          walk_at "go"
          refine arch_go (by omega) (by omega) ?_
          walk_at "go"
          exact q
end

section
open Rd
variable {P : Program} {w : World} {K : PySem.W.Frag} {mg : Str → Option Value} {base : Heap}
def spLArch : Sp := fun vs H Q _ => ∃ u : Int, vs = [.int u] ∧ 0 ≤ u ∧ u ≤ 324000 ∧ Q (.int (arch u)) H
set_option maxHeartbeats 4000000 in
theorem ok_larch (T : Txt K mg) : ∃ (f : Addr) (fd : FuncData), FnOk P w K mg base CX0 1 f fd ["u"] spLArch ∧ mg "_law_arch" = some (.ref f) ∧ PySem.W.keepIn K (.ref f) = true ∧ L2.Binds K fd ["u"] [] := by
  obtain ⟨f, fd, F, g, bi⟩ := T.d__law_arch
  refine ⟨f, fd, ?_, g, F.kp, bi⟩
  refine F.ok sc__law_arch (fun vs H Q E h => ?_) (fun cdv A outer s H vs Q E hr h => ?_)
  · obtain ⟨u, rfl, _⟩ := h; rfl
  · obtain ⟨u, rfl, h0, h1, q⟩ := h
    refine ⟨_, (pss_cons (ps_set (i := 1) sc__law_arch.nd rfl (by first | exact Or.inl rfl | exact Or.inr rfl) pe_int)
      (pss_one (ps_ret (pe_op op_fdivW (pe_op op_mul (pe_op op_mul pe_int (pv 0)) (pe_op op_sub (pe_op op_mul (pe_op op_mul pe_int (pv 1)) (pv 1)) (pe_op op_mul (pv 0) (pv 0)))) (pe_op op_mul (pe_op op_mul (pe_op op_mul pe_int (pv 1)) (pv 1)) (pv 1)))))), ?_⟩
    refine Rd.start (σ' := [some (.int u), none]) rfl ?_
    try dsimp only [cxOf, Cx.nox, Cx.wish]
    walk_at "go"
    rw [← arch_due] at q
    exact q
theorem larch_go {H : Hp} {u : Int} {Q : VK} {E : XK} (h0 : 0 ≤ u) (h1 : u ≤ 324000) (q : Q (.int (arch u)) H) : CALL spLArch [.int u] H Q E := ⟨u, rfl, h0, h1, q⟩
set_option maxHeartbeats 4000000 in
theorem ok_lwave (T : Txt K mg) : ∃ (f : Addr) (fd : FuncData), FnOk P w K mg base CX0 2 f fd ["x"] spWave ∧ mg "_law_wave" = some (.ref f) ∧ PySem.W.keepIn K (.ref f) = true ∧ L2.Binds K fd ["x"] [] := by
  obtain ⟨f, fd, F, g, bi⟩ := T.d__law_wave
  obtain ⟨f__law_arch, fd__law_arch, G__law_arch, g__law_arch, kp__law_arch, b__law_arch⟩ := ok_larch (P := P) (w := w) (base := base) T
  refine ⟨f, fd, ?_, g, F.kp, bi⟩
  refine F.ok sc__law_wave (fun vs H Q E h => ?_) (fun cdv A outer s H vs Q E hr h => ?_)
  · obtain ⟨x, rfl, _⟩ := h; rfl
  · obtain ⟨x, rfl, q⟩ := h
    refine ⟨_, (pss_cons (ps_set (i := 0) sc__law_wave.nd rfl (by first | exact Or.inl rfl | exact Or.inr rfl) (pe_op op_mod (pe_callTy call_int1 (by rfl) T.m_int (by decide +kernel) (pa_cons (pv 0) pa_nil)) pe_int))
      (pss_cons (ps_if (pt_cmpR op_ge (pv 0) pe_int (nomark _)) (pss_one (ps_ret (pe_un un_neg (pe_call G__law_arch (hr.mono (by omega)) (by rfl) g__law_arch kp__law_arch b__law_arch .nil pass0 (pa_cons (pe_callB (call_min2 rfl) (by rfl) T.m_min (by decide +kernel) (pa_cons (pe_op op_sub (pv 0) pe_int) (pa_cons (pe_op op_sub pe_int (pv 0)) pa_nil))) pa_nil))))) pss_nil)
      (pss_one (ps_ret (pe_call G__law_arch (hr.mono (by omega)) (by rfl) g__law_arch kp__law_arch b__law_arch .nil pass0 (pa_cons (pe_callB (call_min2 rfl) (by rfl) T.m_min (by decide +kernel) (pa_cons (pv 0) (pa_cons (pe_op op_sub pe_int (pv 0)) pa_nil))) pa_nil)))))), ?_⟩
    refine Rd.start (σ' := [some (.int x)]) rfl ?_
    try dsimp only [cxOf, Cx.nox, Cx.wish]
    have h0 : 0 ≤ x % 1296000 := Int.emod_nonneg _ (by decide)
    have h1 : x % 1296000 < 1296000 := Int.emod_lt_of_pos _ (by decide)
    rw [← lw_wave] at q
    unfold lw at q
    by_cases a : x % 1296000 ≥ 648000
    · rw [if_pos a] at q
      walk_at "go"
      refine larch_go (by split <;> omega) (by split <;> omega) ?_
      walk_at "go"
      exact q
    · rw [if_neg a] at q
      walk_at "go"
      refine larch_go (by split <;> omega) (by split <;> omega) ?_
      exact q
end

/-! ### what an expression means -/
structure Den where
  val : Int → Int
  most : Int
  far : Int → Int
def rup (n d : Int) : Int := -(-n / d)
def ab (i : Int) : Int := if i < 0 then -i else i
def cap (top far : Int) : Int := if 2 * top < far then 2 * top else far
def wfar (d : Int) : Int := if d = 0 then 0 else 125 * d / 27 + 1
def dTurn (s i d : Int) : Den := ⟨fun t => s + i * t / d, 0, fun k => rup (ab i * k) d⟩
def dMoved (a v : Den) : Den := ⟨fun t => a.val t + v.val t, 0, fun k => a.far k + v.far k⟩
def dMinus (a b : Den) : Den := ⟨fun t => a.val t - b.val t, 0, fun k => a.far k + b.far k⟩
def dNum (i : Int) : Den := ⟨fun _ => i, ab i, fun _ => cap (ab i) 0⟩
def dWave (a : Den) : Den := ⟨fun t => wave (a.val t), 1000000, fun k => cap 1000000 (wfar (a.far k))⟩
def dSum (vs : List Den) : Den := ⟨fun t => (vs.map fun v => v.val t).sum, (vs.map fun v => v.most).sum, fun k => cap (vs.map fun v => v.most).sum (vs.map fun v => v.far k).sum⟩
def dShare (v : Den) (i d : Int) : Den := ⟨fun t => v.val t * i / d, rup (v.most * ab i) d, fun k => cap (rup (v.most * ab i) d) (rup (v.far k * ab i) d)⟩
def dProd (v w : Den) (d : Int) : Den := ⟨fun t => v.val t * w.val t / d, rup (v.most * w.most) d, fun k => cap (rup (v.most * w.most) d) (rup (v.most * w.far k + w.most * v.far k) d)⟩
def dLater (v : Den) (i : Int) : Den := ⟨fun t => v.val (t + i), v.most, v.far⟩
def Lim (i : Int) : Prop := -1000000000000 ≤ i ∧ i ≤ 1000000000000
def Dv (d : Int) : Prop := 1 ≤ d ∧ d ≤ 1000000000000
/-- the value v is, in the heap H, an expression at most n deep (true: a quantity, false: an angle) with the meaning D -/
inductive Ex (H : Hp) : Nat → Bool → V → Den → Prop
  | qnum {n p i} (h : H p = some (.tup [.str "number", .int i])) (l : Lim i) : Ex H (n + 1) true (.ref p) (dNum i)
  | qwave {n p b g} (h : H p = some (.tup [.str "wave", b])) (l : Ex H n false b g) : Ex H (n + 1) true (.ref p) (dWave g)
  | qsum {n p xs gs} (h : H p = some (.tup (.str "sum" :: xs))) (e : xs.length = gs.length) (l0 : 0 < xs.length) (l1 : xs.length ≤ 1000) (l : ∀ (i : Nat) x g, xs[i]? = some x → gs[i]? = some g → Ex H n true x g) : Ex H (n + 1) true (.ref p) (dSum gs)
  | qshare {n p b g i d} (h : H p = some (.tup [.str "share", b, .int i, .int d])) (l : Ex H n true b g) (li : Lim i) (ld : Dv d) : Ex H (n + 1) true (.ref p) (dShare g i d)
  | qprod {n p b c g f d} (h : H p = some (.tup [.str "product", b, c, .int d])) (l : Ex H n true b g) (l2 : Ex H n true c f) (ld : Dv d) : Ex H (n + 1) true (.ref p) (dProd g f d)
  | qlater {n p b g i} (h : H p = some (.tup [.str "later", b, .int i])) (l : Ex H n true b g) (li : Lim i) : Ex H (n + 1) true (.ref p) (dLater g i)
  | aturn {n p s i d} (h : H p = some (.tup [.str "turning", .int s, .int i, .int d])) (ls : Lim s) (li : Lim i) (ld : Dv d) : Ex H (n + 1) false (.ref p) (dTurn s i d)
  | amoved {n p b c g f} (h : H p = some (.tup [.str "moved", b, c])) (l : Ex H n false b g) (l2 : Ex H n true c f) : Ex H (n + 1) false (.ref p) (dMoved g f)
  | aminus {n p b c g f} (h : H p = some (.tup [.str "minus", b, c])) (l : Ex H n false b g) (l2 : Ex H n false c f) : Ex H (n + 1) false (.ref p) (dMinus g f)
def TupSub (H H' : Hp) : Prop := ∀ p xs, H p = some (.tup xs) → H' p = some (.tup xs)
theorem Ex.sub {H H' : Hp} (s : TupSub H H') {n : Nat} {k : Bool} {v : V} {D : Den} (h : Ex H n k v D) : Ex H' n k v D := by
  induction h with
  | qnum h l => exact .qnum (s _ _ h) l
  | qwave h l ih => exact .qwave (s _ _ h) ih
  | qsum h e l0 l1 l ih => exact .qsum (s _ _ h) e l0 l1 ih
  | qshare h l li ld ih => exact .qshare (s _ _ h) ih li ld
  | qprod h l l2 ld ih ih2 => exact .qprod (s _ _ h) ih ih2 ld
  | qlater h l li ih => exact .qlater (s _ _ h) ih li
  | aturn h ls li ld => exact .aturn (s _ _ h) ls li ld
  | amoved h l l2 ih ih2 => exact .amoved (s _ _ h) ih ih2
  | aminus h l l2 ih ih2 => exact .aminus (s _ _ h) ih ih2
theorem Ex.up {H : Hp} {n : Nat} {k : Bool} {v : V} {D : Den} (h : Ex H n k v D) : Ex H (n + 1) k v D := by
  induction h with
  | qnum h l => exact .qnum h l
  | qwave h l ih => exact .qwave h ih
  | qsum h e l0 l1 l ih => exact .qsum h e l0 l1 ih
  | qshare h l li ld ih => exact .qshare h ih li ld
  | qprod h l l2 ld ih ih2 => exact .qprod h ih ih2 ld
  | qlater h l li ih => exact .qlater h ih li
  | aturn h ls li ld => exact .aturn h ls li ld
  | amoved h l l2 ih ih2 => exact .amoved h ih ih2
  | aminus h l l2 ih ih2 => exact .aminus h ih ih2
theorem TupSub.same {H H' : Hp} (s : Same H H') : TupSub H H' := fun p _ h => s p _ h
theorem TupSub.but {H H' : Hp} {d cc : Addr} (S : DrawS H d cc) (s : Rd.But d H H') : TupSub H H' := fun p _ h => s p _ (S.neT h) h
/-! sizes -/
def bits : Nat → Nat
  | 0 => 0
  | n + 1 => 2 * bits n + 84
theorem two_bits (n : Nat) : (1 : Int) ≤ 2 ^ bits n := by
  have : 0 < (2 : Nat) ^ bits n := Nat.pow_pos (by decide)
  have e : ((2 ^ bits n : Nat) : Int) = (2 : Int) ^ bits n := by rw [Int.natCast_pow]; rfl
  omega
theorem ediv_size {a d : Int} (h : 1 ≤ d) {B : Int} (hB : 0 ≤ B) (h1 : -B ≤ a) (h2 : a ≤ B) : -B ≤ a / d ∧ a / d ≤ B := by
  constructor
  · have : -B ≤ a / d ↔ -B * d ≤ a := Int.le_ediv_iff_mul_le (by omega)
    rw [this]
    have : B * 1 ≤ B * d := Int.mul_le_mul_of_nonneg_left h hB
    rw [Int.neg_mul]
    omega
  · by_cases ha : 0 ≤ a
    · exact Int.le_trans (Int.ediv_le_self _ ha) h2
    · have : a / d < 0 := Int.ediv_neg_of_neg_of_pos (by omega) (by omega)
      omega
theorem mul_size {a b A B : Int} (h1 : -A ≤ a) (h2 : a ≤ A) (h3 : -B ≤ b) (h4 : b ≤ B) : -(A * B) ≤ a * b ∧ a * b ≤ A * B := by
  have hA : 0 ≤ A := by omega
  have hB : 0 ≤ B := by omega
  have e : (a * b).natAbs ≤ (A * B).natAbs := by
    rw [Int.natAbs_mul, Int.natAbs_mul]
    exact Nat.mul_le_mul (by omega) (by omega)
  have e2 : ((A * B).natAbs : Int) = A * B := Int.natAbs_of_nonneg (Int.mul_nonneg hA hB)
  omega
theorem bits_up (n : Nat) : (2 : Int) ^ bits (n + 1) = 2 ^ bits n * 2 ^ bits n * 19342813113834066795298816 := by
  show (2 : Int) ^ (2 * bits n + 84) = _
  rw [Int.pow_add, show 2 * bits n = bits n + bits n by omega, Int.pow_add]
  rfl
theorem bits_le {n : Nat} {z c : Int} (hc : 0 ≤ c) (hc2 : c ≤ 19342813113834066795298816) (h1 : -(2 ^ bits n * c) ≤ z) (h2 : z ≤ 2 ^ bits n * c) : -(2 ^ bits (n + 1)) ≤ z ∧ z ≤ 2 ^ bits (n + 1) := by
  rw [bits_up]
  have b := two_bits n
  have h3 : 2 ^ bits n * c ≤ 2 ^ bits n * 19342813113834066795298816 := Int.mul_le_mul_of_nonneg_left hc2 (by omega)
  have h4 : (2 : Int) ^ bits n * 1 ≤ 2 ^ bits n * 2 ^ bits n := Int.mul_le_mul_of_nonneg_left b (by omega)
  have h5 : 2 ^ bits n * 19342813113834066795298816 ≤ 2 ^ bits n * 2 ^ bits n * (19342813113834066795298816 : Int) := Int.mul_le_mul_of_nonneg_right (by omega) (by decide)
  omega
theorem Ex.size {H : Hp} {n : Nat} {k : Bool} {v : V} {D : Den} (h : Ex H n k v D) : k = true → ∀ t, -(2 ^ bits n) ≤ D.val t ∧ D.val t ≤ 2 ^ bits n := by
  induction h with
  | @qnum n p i h l =>
    intro _ t
    have b := two_bits n
    obtain ⟨l1, l2⟩ := l
    have h3 : (1 : Int) * 1000000000000 ≤ 2 ^ bits n * 1000000000000 := Int.mul_le_mul_of_nonneg_right b (by decide)
    exact bits_le (n := n) (c := 1000000000000) (by decide) (by decide) (show -(2 ^ bits n * 1000000000000) ≤ i by omega) (show i ≤ 2 ^ bits n * 1000000000000 by omega)
  | @qwave n p b g h l ih =>
    intro _ t
    have b := two_bits n
    have m := wave_most (g.val t)
    have h3 : (1 : Int) * 1000000 ≤ 2 ^ bits n * 1000000 := Int.mul_le_mul_of_nonneg_right b (by decide)
    exact bits_le (n := n) (c := 1000000) (by decide) (by decide) (show -(2 ^ bits n * 1000000) ≤ wave (g.val t) by omega) (show wave (g.val t) ≤ 2 ^ bits n * 1000000 by omega)
  | @qsum n p xs gs h e l0 l1 l ih =>
    intro _ t
    have b := two_bits n
    have each : ∀ g ∈ gs, -(2 ^ bits n) ≤ g.val t ∧ g.val t ≤ 2 ^ bits n := by
      intro g hg
      obtain ⟨i, hi, rfl⟩ := List.getElem_of_mem hg
      exact ih i xs[i] gs[i] (List.getElem?_eq_getElem (by omega)) (List.getElem?_eq_getElem hi) rfl t
    have all : ∀ (gs : List Den), (∀ g ∈ gs, -(2 ^ bits n) ≤ g.val t ∧ g.val t ≤ 2 ^ bits n) → -(2 ^ bits n * (gs.length : Int)) ≤ (gs.map fun g => g.val t).sum ∧ (gs.map fun g => g.val t).sum ≤ 2 ^ bits n * (gs.length : Int) := by
      intro gs
      induction gs with
      | nil => intro _; simp
      | cons g r ihr =>
        intro hg
        have h1 := hg g (List.mem_cons_self ..)
        have h2 := ihr fun x hx => hg x (List.mem_cons_of_mem _ hx)
        rw [List.map_cons, List.sum_cons, List.length_cons]
        have e : (2 : Int) ^ bits n * ((r.length + 1 : Nat) : Int) = 2 ^ bits n * (r.length : Int) + 2 ^ bits n := by
          rw [show ((r.length + 1 : Nat) : Int) = (r.length : Int) + 1 by omega, Int.mul_add, Int.mul_one]
        omega
    have q := all gs each
    exact bits_le (n := n) (c := gs.length) (by omega) (by omega) q.1 q.2
  | @qshare n p b g i d h l li ld ih =>
    intro _ t
    obtain ⟨l1, l2⟩ := li
    have q := ih rfl t
    have m := mul_size q.1 q.2 l1 l2
    have b := two_bits n
    have w := ediv_size ld.1 (B := 2 ^ bits n * 1000000000000) (by omega) m.1 m.2
    exact bits_le (n := n) (c := 1000000000000) (by decide) (by decide) w.1 w.2
  | @qprod n p b c g f d h l l2 ld ih ih2 =>
    intro _ t
    have q := ih rfl t
    have r := ih2 rfl t
    have m := mul_size q.1 q.2 r.1 r.2
    have b := two_bits n
    have hb : 0 ≤ (2 : Int) ^ bits n * 2 ^ bits n := Int.mul_nonneg (by omega) (by omega)
    have w := ediv_size ld.1 hb m.1 m.2
    rw [bits_up]
    have h5 : 2 ^ bits n * 2 ^ bits n * (1 : Int) ≤ 2 ^ bits n * 2 ^ bits n * (19342813113834066795298816 : Int) := Int.mul_le_mul_of_nonneg_left (by decide) hb
    show -(2 ^ bits n * 2 ^ bits n * 19342813113834066795298816) ≤ g.val t * f.val t / d ∧ g.val t * f.val t / d ≤ 2 ^ bits n * 2 ^ bits n * 19342813113834066795298816
    omega
  | @qlater n p b g i h l li ih =>
    intro _ t
    have q := ih rfl (t + i)
    have b := two_bits n
    exact bits_le (n := n) (c := 1) (by decide) (by decide) (show -(2 ^ bits n * 1) ≤ g.val (t + i) by omega) (show g.val (t + i) ≤ 2 ^ bits n * 1 by omega)
  | aturn => intro z; cases z
  | amoved => intro z; cases z
  | aminus => intro z; cases z
theorem bits_small {n : Nat} (h : n ≤ 12) : bits n ≤ 400000 := by
  have m : ∀ a b, a ≤ b → bits a ≤ bits b := by
    intro a b hab
    induction hab with
    | refl => exact Nat.le_refl _
    | step _ ih => exact Nat.le_trans ih (by show _ ≤ 2 * bits _ + 84; omega)
  exact Nat.le_trans (m _ _ h) (by decide)
theorem mulW_of {n : Nat} {a b : Int} (hn : n ≤ 12) (h1 : -(2 ^ bits n) ≤ a) (h2 : a ≤ 2 ^ bits n) (h3 : -(2 ^ bits n) ≤ b) (h4 : b ≤ 2 ^ bits n) : CMulW a b := by
  have s := bits_small hn
  have e : ((2 ^ bits n : Nat) : Int) = (2 : Int) ^ bits n := by rw [Int.natCast_pow]; rfl
  have p : (2 : Nat) ^ (bits n + 1) = 2 * 2 ^ bits n := by rw [Nat.pow_succ]; omega
  have z : 0 < (2 : Nat) ^ bits n := Nat.pow_pos (by decide)
  exact wide_mul (a := bits n + 1) (b := bits n + 1) (by rw [p]; omega) (by rw [p]; omega) (by omega) (by omega) (by omega)

/-! ### the reach: signs, growth, soundness -/
theorem ab_nn (i : Int) : 0 ≤ ab i := by unfold ab; split <;> omega
theorem ab_bd (i : Int) : -ab i ≤ i ∧ i ≤ ab i := by unfold ab; split <;> omega
theorem ab_le {i B : Int} (h1 : -B ≤ i) (h2 : i ≤ B) : ab i ≤ B := by unfold ab; split <;> omega
theorem rup_lo {n d : Int} (h : 1 ≤ d) : n ≤ rup n d * d := by
  unfold rup
  have := Int.ediv_mul_le (-n) (b := d) (by omega)
  rw [Int.neg_mul]
  omega
theorem rup_hi {n d : Int} (h : 1 ≤ d) : rup n d * d < n + d := by
  unfold rup
  have := Int.lt_ediv_add_one_mul_self (-n) (b := d) (by omega)
  rw [Int.add_mul, Int.one_mul] at this
  rw [Int.neg_mul]
  omega
theorem rup_mono {n m d : Int} (h : 1 ≤ d) (hn : n ≤ m) : rup n d ≤ rup m d := by
  unfold rup
  have := Int.ediv_le_ediv (a := -m) (b := -n) (c := d) (by omega) (by omega)
  omega
theorem rup_zero (d : Int) : rup 0 d = 0 := by unfold rup; simp
theorem rup_nn {n d : Int} (h : 1 ≤ d) (hn : 0 ≤ n) : 0 ≤ rup n d := by
  have := rup_mono h hn
  rw [rup_zero] at this
  exact this
theorem rup_self {n d : Int} (h : 1 ≤ d) (hn : 0 ≤ n) : rup n d ≤ n := by
  unfold rup
  have h1 := ediv_size h (B := n) (a := -n) hn (by omega) (by omega)
  omega
theorem rup_up {n d : Int} (h : 1 ≤ d) : (n + d - 1) / d = rup n d := by
  have h1 := Int.ediv_mul_le (n + d - 1) (b := d) (by omega)
  have h2 := Int.lt_ediv_add_one_mul_self (n + d - 1) (b := d) (by omega)
  have h3 := rup_lo (n := n) h
  have h4 := rup_hi (n := n) h
  generalize (n + d - 1) / d = x at *
  generalize rup n d = y at *
  have a : x * d < (y + 1) * d := by rw [Int.add_mul, Int.one_mul]; omega
  have b : y * d < (x + 1) * d := by rw [Int.add_mul, Int.one_mul] at h2 ⊢; omega
  have a' := Int.lt_of_mul_lt_mul_right a (by omega)
  have b' := Int.lt_of_mul_lt_mul_right b (by omega)
  omega
/-- a quotient's size -/
theorem div_bd {a B d : Int} (h : 1 ≤ d) (h1 : -B ≤ a) (h2 : a ≤ B) : -rup B d ≤ a / d ∧ a / d ≤ rup B d := by
  have e1 := Int.ediv_mul_le a (b := d) (by omega)
  have e2 := Int.lt_ediv_add_one_mul_self a (b := d) (by omega)
  have r1 := rup_lo (n := B) h
  generalize a / d = x at *
  generalize rup B d = r at *
  rw [Int.add_mul, Int.one_mul] at e2
  constructor
  · have : (-r) * d < (x + 1) * d := by rw [Int.add_mul, Int.one_mul, Int.neg_mul]; omega
    have := Int.lt_of_mul_lt_mul_right this (by omega)
    omega
  · have : x * d < (r + 1) * d := by rw [Int.add_mul, Int.one_mul]; omega
    have := Int.lt_of_mul_lt_mul_right this (by omega)
    omega
/-- the difference of two quotients -/
theorem div_diff {a b B d : Int} (h : 1 ≤ d) (h1 : a - b ≤ B) : a / d - b / d ≤ rup B d := by
  have e1 := Int.ediv_mul_le a (b := d) (by omega)
  have f2 := Int.lt_ediv_add_one_mul_self b (b := d) (by omega)
  have r1 := rup_lo (n := B) h
  generalize a / d = x at *
  generalize b / d = y at *
  generalize rup B d = r at *
  rw [Int.add_mul, Int.one_mul] at f2
  have : (x - y) * d < (r + 1) * d := by rw [Int.add_mul, Int.one_mul, Int.sub_mul]; omega
  have := Int.lt_of_mul_lt_mul_right this (by omega)
  omega
theorem cap_le (top far : Int) : cap top far ≤ far ∧ cap top far ≤ 2 * top := by unfold cap; split <;> omega
theorem cap_nn {top far : Int} (h : 0 ≤ top) (h2 : 0 ≤ far) : 0 ≤ cap top far := by unfold cap; split <;> omega
theorem cap_mono {top a b : Int} (h : a ≤ b) : cap top a ≤ cap top b := by unfold cap; split <;> split <;> omega
theorem cap_zero {top : Int} (h : 0 ≤ top) : cap top 0 = 0 := by unfold cap; split <;> omega
theorem cap_bd {top far z : Int} (h1 : -far ≤ z ∧ z ≤ far) (h2 : -(2 * top) ≤ z ∧ z ≤ 2 * top) : -cap top far ≤ z ∧ z ≤ cap top far := by unfold cap; split <;> omega
theorem wfar_nn {d : Int} (h : 0 ≤ d) : 0 ≤ wfar d := by unfold wfar; split <;> omega
theorem wfar_mono {a b : Int} (h0 : 0 ≤ a) (h : a ≤ b) : wfar a ≤ wfar b := by unfold wfar; split <;> split <;> omega
theorem sum_nn : ∀ (xs : List Int), (∀ x ∈ xs, 0 ≤ x) → 0 ≤ xs.sum
  | [], _ => by simp
  | x :: r, h => by
    have := h x (List.mem_cons_self ..)
    have := sum_nn r fun y hy => h y (List.mem_cons_of_mem _ hy)
    rw [List.sum_cons]
    omega
theorem sum_map_le {α : Type} (f g : α → Int) : ∀ (xs : List α), (∀ x ∈ xs, f x ≤ g x) → (xs.map f).sum ≤ (xs.map g).sum
  | [], _ => by simp
  | x :: r, h => by
    have := h x (List.mem_cons_self ..)
    have := sum_map_le f g r fun y hy => h y (List.mem_cons_of_mem _ hy)
    rw [List.map_cons, List.map_cons, List.sum_cons, List.sum_cons]
    omega
theorem sum_map_zero {α : Type} (f : α → Int) : ∀ (xs : List α), (∀ x ∈ xs, f x = 0) → (xs.map f).sum = 0
  | [], _ => by simp
  | x :: r, h => by
    have := h x (List.mem_cons_self ..)
    have := sum_map_zero f r fun y hy => h y (List.mem_cons_of_mem _ hy)
    rw [List.map_cons, List.sum_cons]
    omega
theorem sum_map_bd {α : Type} (f g : α → Int) : ∀ (xs : List α), (∀ x ∈ xs, -g x ≤ f x ∧ f x ≤ g x) → -(xs.map g).sum ≤ (xs.map f).sum ∧ (xs.map f).sum ≤ (xs.map g).sum
  | [], _ => by simp
  | x :: r, h => by
    have := h x (List.mem_cons_self ..)
    have := sum_map_bd f g r fun y hy => h y (List.mem_cons_of_mem _ hy)
    rw [List.map_cons, List.map_cons, List.sum_cons, List.sum_cons]
    omega
theorem sum_map_sub {α : Type} (f g : α → Int) : ∀ (xs : List α), (xs.map f).sum - (xs.map g).sum = (xs.map fun x => f x - g x).sum
  | [] => by simp
  | x :: r => by
    have := sum_map_sub f g r
    rw [List.map_cons, List.map_cons, List.map_cons, List.sum_cons, List.sum_cons, List.sum_cons]
    omega
theorem mul_nn {a b : Int} (h : 0 ≤ a) (h2 : 0 ≤ b) : 0 ≤ a * b := Int.mul_nonneg h h2
structure Good (k : Bool) (n : Nat) (D : Den) : Prop where
  mnn : 0 ≤ D.most
  mle : k = true → D.most ≤ 2 ^ bits n
  fnn : ∀ j, 0 ≤ j → 0 ≤ D.far j
  fmono : ∀ i j, 0 ≤ i → i ≤ j → D.far i ≤ D.far j
  f0 : D.far 0 = 0
  fle : k = true → ∀ j, 0 ≤ j → D.far j ≤ 2 * D.most
  vle : k = true → ∀ t, -D.most ≤ D.val t ∧ D.val t ≤ D.most
  sound : ∀ t u j, -j ≤ t - u → t - u ≤ j → -D.far j ≤ D.val t - D.val u ∧ D.val t - D.val u ≤ D.far j
theorem mem_pair {H : Hp} {n : Nat} {xs : List V} {gs : List Den} {R : Den → Prop} (e : xs.length = gs.length) (l : ∀ (i : Nat) x g, xs[i]? = some x → gs[i]? = some g → R g) : ∀ g ∈ gs, R g := by
  intro g hg
  obtain ⟨i, hi, rfl⟩ := List.getElem_of_mem hg
  exact l i xs[i] gs[i] (List.getElem?_eq_getElem (by omega)) (List.getElem?_eq_getElem hi)
theorem Ex.good {H : Hp} {n : Nat} {k : Bool} {v : V} {D : Den} (h : Ex H n k v D) : Good k n D := by
  induction h with
  | @qnum n p i h l =>
    obtain ⟨l1, l2⟩ := l
    have b := two_bits n
    have m := ab_nn i
    have m1 := ab_bd i
    have m2 : ab i ≤ 1000000000000 := ab_le (by omega) l2
    have h3 : (1 : Int) * 1000000000000 ≤ 2 ^ bits n * 1000000000000 := Int.mul_le_mul_of_nonneg_right b (by decide)
    refine ⟨m, fun _ => (bits_le (n := n) (c := 1000000000000) (z := ab i) (by decide) (by decide) (by omega) (by omega)).2, fun j _ => cap_nn m (by omega), fun _ _ _ _ => Int.le_refl _, cap_zero m, fun _ _ _ => (cap_le _ _).2, fun _ _ => m1, fun t u j _ _ => ?_⟩
    have z := cap_nn (far := 0) m (by omega)
    show -cap (ab i) 0 ≤ i - i ∧ i - i ≤ cap (ab i) 0
    omega
  | @qwave n p b g h l ih =>
    have b := two_bits n
    have h3 : (1 : Int) * 1000000 ≤ 2 ^ bits n * 1000000 := Int.mul_le_mul_of_nonneg_right b (by decide)
    refine ⟨(by decide : (0 : Int) ≤ 1000000), fun _ => (bits_le (n := n) (c := 1000000) (z := 1000000) (by decide) (by decide) (by omega) (by omega)).2, fun j hj => cap_nn (by decide) (wfar_nn (ih.fnn j hj)), fun i j hi hj => cap_mono (wfar_mono (ih.fnn i hi) (ih.fmono i j hi hj)), ?_, fun _ _ _ => (cap_le _ _).2, fun _ t => wave_most _, fun t u j h1 h2 => ?_⟩
    · show cap 1000000 (wfar (g.far 0)) = 0
      rw [ih.f0]
      decide
    · show -cap 1000000 (wfar (g.far j)) ≤ wave (g.val t) - wave (g.val u) ∧ wave (g.val t) - wave (g.val u) ≤ cap 1000000 (wfar (g.far j))
      have hj : 0 ≤ j := by omega
      have s := ih.sound t u j h1 h2
      have fn := ih.fnn j hj
      have w1 := wave_lip (g.val t) (g.val u)
      have w2 := wave_lip (g.val u) (g.val t)
      have m1 := wave_most (g.val t)
      have m2 := wave_most (g.val u)
      refine cap_bd ?_ (by omega)
      unfold wfar
      by_cases z : g.far j = 0
      · rw [if_pos z]
        have e : g.val t = g.val u := by omega
        rw [e]
        omega
      · rw [if_neg z]
        have a1 : (if g.val t - g.val u < 0 then -(g.val t - g.val u) else g.val t - g.val u) ≤ g.far j := by split <;> omega
        have a2 : (if g.val u - g.val t < 0 then -(g.val u - g.val t) else g.val u - g.val t) ≤ g.far j := by split <;> omega
        generalize (if g.val t - g.val u < 0 then -(g.val t - g.val u) else g.val t - g.val u) = x at *
        generalize (if g.val u - g.val t < 0 then -(g.val u - g.val t) else g.val u - g.val t) = y at *
        omega
  | @qsum n p xs gs h e l0 l1 l ih =>
    have b := two_bits n
    have each : ∀ g ∈ gs, Good true n g := mem_pair (H := H) (n := n) e ih
    have mnn : 0 ≤ (gs.map fun v => v.most).sum := sum_nn _ (by intro x hx; obtain ⟨g, hg, rfl⟩ := List.mem_map.mp hx; exact (each g hg).mnn)
    have fnn : ∀ j, 0 ≤ j → 0 ≤ (gs.map fun v => v.far j).sum := fun j hj => sum_nn _ (by intro x hx; obtain ⟨g, hg, rfl⟩ := List.mem_map.mp hx; exact (each g hg).fnn j hj)
    have vle : ∀ t, -(gs.map fun v => v.most).sum ≤ (gs.map fun v => v.val t).sum ∧ (gs.map fun v => v.val t).sum ≤ (gs.map fun v => v.most).sum := fun t => sum_map_bd _ _ gs fun g hg => (each g hg).vle rfl t
    refine ⟨mnn, fun _ => ?_, fun j hj => cap_nn mnn (fnn j hj), fun i j hi hj => cap_mono (sum_map_le _ _ gs fun g hg => (each g hg).fmono i j hi hj), ?_, fun _ _ _ => (cap_le _ _).2, fun _ t => vle t, fun t u j h1 h2 => ?_⟩
    · have all : ∀ (gs : List Den), (∀ g ∈ gs, Good true n g) → (gs.map fun g => g.most).sum ≤ 2 ^ bits n * (gs.length : Int) := by
        intro gs
        induction gs with
        | nil => intro _; simp
        | cons g r ihr =>
          intro hg
          have h1 := (hg g (List.mem_cons_self ..)).mle rfl
          have h2 := ihr fun x hx => hg x (List.mem_cons_of_mem _ hx)
          rw [List.map_cons, List.sum_cons, List.length_cons]
          have e : (2 : Int) ^ bits n * ((r.length + 1 : Nat) : Int) = 2 ^ bits n * (r.length : Int) + 2 ^ bits n := by
            rw [show ((r.length + 1 : Nat) : Int) = (r.length : Int) + 1 by omega, Int.mul_add, Int.mul_one]
          omega
      have q := all gs each
      have q2 : 0 ≤ 2 ^ bits n * (gs.length : Int) := Int.mul_nonneg (by omega) (by omega)
      exact (bits_le (n := n) (c := gs.length) (z := (gs.map fun v => v.most).sum) (by omega) (by omega) (by omega) q).2
    · show cap (gs.map fun v => v.most).sum (gs.map fun v => v.far 0).sum = 0
      rw [sum_map_zero _ gs fun g hg => (each g hg).f0]
      exact cap_zero mnn
    · have v1 := vle t
      have v2 := vle u
      refine cap_bd ?_ (show _ ∧ _ from ⟨by show -(2 * (gs.map fun v => v.most).sum) ≤ (gs.map fun v => v.val t).sum - (gs.map fun v => v.val u).sum; omega, by show (gs.map fun v => v.val t).sum - (gs.map fun v => v.val u).sum ≤ 2 * (gs.map fun v => v.most).sum; omega⟩)
      show _ ≤ (gs.map fun v => v.val t).sum - (gs.map fun v => v.val u).sum ∧ (gs.map fun v => v.val t).sum - (gs.map fun v => v.val u).sum ≤ _
      rw [sum_map_sub]
      exact sum_map_bd _ _ gs fun g hg => (each g hg).sound t u j h1 h2
  | @qshare n p b g i d h l li ld ih =>
    obtain ⟨l1, l2⟩ := li
    obtain ⟨d1, d2⟩ := ld
    have b := two_bits n
    have m := ab_nn i
    have m1 := ab_bd i
    have m2 : ab i ≤ 1000000000000 := ab_le (by omega) l2
    have mnn : 0 ≤ rup (g.most * ab i) d := rup_nn d1 (mul_nn ih.mnn m)
    have vle : ∀ t, -rup (g.most * ab i) d ≤ g.val t * i / d ∧ g.val t * i / d ≤ rup (g.most * ab i) d := fun t => by
      have v := ih.vle rfl t
      have z := mul_size v.1 v.2 m1.1 m1.2
      exact div_bd d1 z.1 z.2
    refine ⟨mnn, fun _ => ?_, fun j hj => cap_nn mnn (rup_nn d1 (mul_nn (ih.fnn j hj) m)), fun x y hx hy => cap_mono (rup_mono d1 (Int.mul_le_mul_of_nonneg_right (ih.fmono x y hx hy) m)), ?_, fun _ _ _ => (cap_le _ _).2, fun _ t => vle t, fun t u j h1 h2 => ?_⟩
    · have a1 := rup_self d1 (mul_nn ih.mnn m)
      have a2 : g.most * ab i ≤ 2 ^ bits n * 1000000000000 := Int.mul_le_mul (ih.mle rfl) m2 m (by omega)
      have a3 : 0 ≤ (2 : Int) ^ bits n * 1000000000000 := by omega
      exact (bits_le (n := n) (c := 1000000000000) (z := rup (g.most * ab i) d) (by decide) (by decide) (by omega) (by omega)).2
    · show cap (rup (g.most * ab i) d) (rup (g.far 0 * ab i) d) = 0
      rw [ih.f0, Int.zero_mul, rup_zero]
      exact cap_zero mnn
    · have s := ih.sound t u j h1 h2
      have z := mul_size s.1 s.2 m1.1 m1.2
      rw [Int.sub_mul] at z
      have q1 := div_diff (a := g.val t * i) (b := g.val u * i) d1 z.2
      have q2 := div_diff (a := g.val u * i) (b := g.val t * i) (B := g.far j * ab i) d1 (by omega)
      have v1 := vle t
      have v2 := vle u
      exact cap_bd (z := g.val t * i / d - g.val u * i / d) (by omega) (by omega)
  | @qprod n p b c g f d h l l2 ld ih ih2 =>
    obtain ⟨d1, d2⟩ := ld
    have b := two_bits n
    have mnn : 0 ≤ rup (g.most * f.most) d := rup_nn d1 (mul_nn ih.mnn ih2.mnn)
    have vle : ∀ t, -rup (g.most * f.most) d ≤ g.val t * f.val t / d ∧ g.val t * f.val t / d ≤ rup (g.most * f.most) d := fun t => by
      have v := ih.vle rfl t
      have w := ih2.vle rfl t
      have z := mul_size v.1 v.2 w.1 w.2
      exact div_bd d1 z.1 z.2
    refine ⟨mnn, fun _ => ?_, fun j hj => cap_nn mnn (rup_nn d1 (Int.add_nonneg (mul_nn ih.mnn (ih2.fnn j hj)) (mul_nn ih2.mnn (ih.fnn j hj)))), fun x y hx hy => cap_mono (rup_mono d1 (Int.add_le_add (Int.mul_le_mul_of_nonneg_left (ih2.fmono x y hx hy) ih.mnn) (Int.mul_le_mul_of_nonneg_left (ih.fmono x y hx hy) ih2.mnn))), ?_, fun _ _ _ => (cap_le _ _).2, fun _ t => vle t, fun t u j h1 h2 => ?_⟩
    · have a1 := rup_self d1 (mul_nn ih.mnn ih2.mnn)
      have a2 : g.most * f.most ≤ 2 ^ bits n * 2 ^ bits n := Int.mul_le_mul (ih.mle rfl) (ih2.mle rfl) ih2.mnn (by omega)
      have hb : 0 ≤ (2 : Int) ^ bits n * 2 ^ bits n := Int.mul_nonneg (by omega) (by omega)
      have h5 : 2 ^ bits n * 2 ^ bits n * (1 : Int) ≤ 2 ^ bits n * 2 ^ bits n * (19342813113834066795298816 : Int) := Int.mul_le_mul_of_nonneg_left (by decide) hb
      rw [bits_up]
      show rup (g.most * f.most) d ≤ _
      omega
    · show cap (rup (g.most * f.most) d) (rup (g.most * f.far 0 + f.most * g.far 0) d) = 0
      rw [ih.f0, ih2.f0, Int.mul_zero, Int.mul_zero, Int.add_zero, rup_zero]
      exact cap_zero mnn
    · have s := ih.sound t u j h1 h2
      have s2 := ih2.sound t u j h1 h2
      have v := ih.vle rfl t
      have w := ih2.vle rfl u
      have z1 := mul_size v.1 v.2 s2.1 s2.2
      have z2 := mul_size w.1 w.2 s.1 s.2
      have e : g.val t * f.val t - g.val u * f.val u = g.val t * (f.val t - f.val u) + f.val u * (g.val t - g.val u) := by grind
      have q1 := div_diff (a := g.val t * f.val t) (b := g.val u * f.val u) (B := g.most * f.far j + f.most * g.far j) d1 (by omega)
      have q2 := div_diff (a := g.val u * f.val u) (b := g.val t * f.val t) (B := g.most * f.far j + f.most * g.far j) d1 (by omega)
      have v1 := vle t
      have v2 := vle u
      exact cap_bd (z := g.val t * f.val t / d - g.val u * f.val u / d) (by omega) (by omega)
  | @qlater n p b g i h l li ih =>
    have b := two_bits n
    refine ⟨ih.mnn, fun _ => ?_, ih.fnn, ih.fmono, ih.f0, ih.fle, fun _ t => ih.vle rfl (t + i), fun t u j h1 h2 => ih.sound (t + i) (u + i) j (by omega) (by omega)⟩
    have a := ih.mle rfl
    have a0 := ih.mnn
    exact (bits_le (n := n) (c := 1) (z := g.most) (by decide) (by decide) (by omega) (by omega)).2
  | @aturn n p s i d h ls li ld =>
    obtain ⟨d1, d2⟩ := ld
    have m := ab_nn i
    have m1 := ab_bd i
    refine ⟨Int.le_refl 0, fun z => by (cases z), fun j hj => rup_nn d1 (mul_nn m hj), fun x y hx hy => rup_mono d1 (Int.mul_le_mul_of_nonneg_left hy m), ?_, fun z => by (cases z), fun z => by (cases z), fun t u j h1 h2 => ?_⟩
    · show rup (ab i * 0) d = 0
      rw [Int.mul_zero, rup_zero]
    · have z := mul_size m1.1 m1.2 h1 h2
      rw [Int.mul_sub] at z
      have q1 := div_diff (a := i * t) (b := i * u) d1 z.2
      have q2 := div_diff (a := i * u) (b := i * t) (B := ab i * j) d1 (by omega)
      show -rup (ab i * j) d ≤ s + i * t / d - (s + i * u / d) ∧ s + i * t / d - (s + i * u / d) ≤ rup (ab i * j) d
      omega
  | @amoved n p b c g f h l l2 ih ih2 =>
    refine ⟨Int.le_refl 0, fun z => by (cases z), fun j hj => Int.add_nonneg (ih.fnn j hj) (ih2.fnn j hj), fun x y hx hy => Int.add_le_add (ih.fmono x y hx hy) (ih2.fmono x y hx hy), ?_, fun z => by (cases z), fun z => by (cases z), fun t u j h1 h2 => ?_⟩
    · show g.far 0 + f.far 0 = 0
      rw [ih.f0, ih2.f0]; rfl
    · have a := ih.sound t u j h1 h2
      have b := ih2.sound t u j h1 h2
      show -(g.far j + f.far j) ≤ g.val t + f.val t - (g.val u + f.val u) ∧ g.val t + f.val t - (g.val u + f.val u) ≤ g.far j + f.far j
      omega
  | @aminus n p b c g f h l l2 ih ih2 =>
    refine ⟨Int.le_refl 0, fun z => by (cases z), fun j hj => Int.add_nonneg (ih.fnn j hj) (ih2.fnn j hj), fun x y hx hy => Int.add_le_add (ih.fmono x y hx hy) (ih2.fmono x y hx hy), ?_, fun z => by (cases z), fun z => by (cases z), fun t u j h1 h2 => ?_⟩
    · show g.far 0 + f.far 0 = 0
      rw [ih.f0, ih2.f0]; rfl
    · have a := ih.sound t u j h1 h2
      have b := ih2.sound t u j h1 h2
      show -(g.far j + f.far j) ≤ g.val t - f.val t - (g.val u - f.val u) ∧ g.val t - f.val t - (g.val u - f.val u) ≤ g.far j + f.far j
      omega

/-! ### lists of rows: tuples of flat things -/
def Rows (H : Hp) : List Addr → List (List V) → Prop
  | [], [] => True
  | p :: ps, r :: rs => H p = some (.tup r) ∧ Rows H ps rs
  | _, _ => False
theorem Rows.len {H : Hp} : ∀ {ps : List Addr} {rs : List (List V)}, Rows H ps rs → ps.length = rs.length
  | [], [], _ => rfl
  | _ :: ps, _ :: rs, h => by rw [List.length_cons, List.length_cons, Rows.len h.2]
  | [], _ :: _, h => h.elim
  | _ :: _, [], h => h.elim
theorem Rows.sub {H H' : Hp} (s : TupSub H H') : ∀ {ps : List Addr} {rs : List (List V)}, Rows H ps rs → Rows H' ps rs
  | [], [], _ => trivial
  | _ :: _, _ :: _, h => ⟨s _ _ h.1, Rows.sub s h.2⟩
  | [], _ :: _, h => h.elim
  | _ :: _, [], h => h.elim
theorem Rows.append {H : Hp} : ∀ {ps qs : List Addr} {rs ss : List (List V)}, Rows H ps rs → Rows H qs ss → Rows H (ps ++ qs) (rs ++ ss)
  | [], _, [], _, _, h2 => h2
  | _ :: _, _, _ :: _, _, h, h2 => ⟨h.1, Rows.append h.2 h2⟩
  | [], _, _ :: _, _, h, _ => h.elim
  | _ :: _, _, [], _, h, _ => h.elim
theorem Rows.get {H : Hp} : ∀ {ps : List Addr} {rs : List (List V)} {i : Nat} {r : List V}, Rows H ps rs → rs[i]? = some r → ∃ p, ps[i]? = some p ∧ H p = some (.tup r)
  | [], [], _, _, _, e => by simp at e
  | p :: _, _ :: _, 0, _, h, e => by
    simp at e
    subst e
    exact ⟨p, rfl, h.1⟩
  | _ :: _, _ :: _, i + 1, _, h, e => by
    simp at e
    obtain ⟨p, e1, e2⟩ := Rows.get h.2 e
    exact ⟨p, by simpa using e1, e2⟩
  | [], _ :: _, _, _, h, _ => h.elim
  | _ :: _, [], _, _, h, _ => h.elim
theorem Rows.set {H : Hp} {p : Addr} {r : List V} (hp : H p = some (.tup r)) : ∀ {ps : List Addr} {rs : List (List V)} {i : Nat}, Rows H ps rs → Rows H (ps.set i p) (rs.set i r)
  | [], [], _, _ => trivial
  | _ :: _, _ :: _, 0, h => ⟨hp, h.2⟩
  | _ :: _, _ :: _, _ + 1, h => ⟨h.1, Rows.set hp h.2⟩
  | [], _ :: _, _, h => h.elim
  | _ :: _, [], _, h => h.elim
theorem Rows.erase {H : Hp} : ∀ {ps : List Addr} {rs : List (List V)} {i : Nat}, Rows H ps rs → Rows H (ps.eraseIdx i) (rs.eraseIdx i)
  | [], [], _, _ => trivial
  | _ :: _, _ :: _, 0, h => h.2
  | _ :: _, _ :: _, _ + 1, h => ⟨h.1, Rows.erase h.2⟩
  | [], _ :: _, _, h => h.elim
  | _ :: _, [], _, h => h.elim
theorem Rows.take {H : Hp} : ∀ {ps : List Addr} {rs : List (List V)} {i : Nat}, Rows H ps rs → Rows H (ps.take i) (rs.take i)
  | _, _, 0, _ => trivial
  | [], [], _ + 1, _ => trivial
  | _ :: _, _ :: _, _ + 1, h => ⟨h.1, Rows.take h.2⟩
  | [], _ :: _, _ + 1, h => h.elim
  | _ :: _, [], _ + 1, h => h.elim
theorem Rows.drop {H : Hp} : ∀ {ps : List Addr} {rs : List (List V)} {i : Nat}, Rows H ps rs → Rows H (ps.drop i) (rs.drop i)
  | _, _, 0, h => h
  | [], [], _ + 1, _ => trivial
  | _ :: _, _ :: _, i + 1, h => by
    rw [List.drop_succ_cons, List.drop_succ_cons]
    exact Rows.drop h.2
  | [], _ :: _, _ + 1, h => h.elim
  | _ :: _, [], _ + 1, h => h.elim
/-- at l a list of the rows rs -/
def TL (H : Hp) (l : Addr) (rs : List (List V)) : Prop := ∃ ps : List Addr, H l = some (.lst (ps.map V.ref)) ∧ Rows H ps rs
theorem TL.sub {H H' : Hp} {l : Addr} {rs : List (List V)} (h : TL H l rs) (e : H' l = H l) (s : TupSub H H') : TL H' l rs := by
  obtain ⟨ps, h1, h2⟩ := h
  exact ⟨ps, e.trans h1, h2.sub s⟩
theorem TL.same {H H' : Hp} {l : Addr} {rs : List (List V)} (h : TL H l rs) (s : Same H H') : TL H' l rs := by
  obtain ⟨ps, h1, h2⟩ := h
  exact ⟨ps, s _ _ h1, h2.sub (TupSub.same s)⟩
theorem TL.but {H H' : Hp} {l d c : Addr} {rs : List (List V)} (h : TL H l rs) (S : DrawS H d c) (s : Rd.But d H H') : TL H' l rs := by
  obtain ⟨ps, h1, h2⟩ := h
  exact ⟨ps, s _ _ (S.ne h1) h1, h2.sub (TupSub.but S s)⟩
theorem TL.lst {H : Hp} {l : Addr} {rs : List (List V)} (h : TL H l rs) : ∃ xs, H l = some (.lst xs) ∧ xs.length = rs.length := by
  obtain ⟨ps, h1, h2⟩ := h
  exact ⟨_, h1, by rw [List.length_map, h2.len]⟩
/-- a list that changes keeps the tuples -/
theorem TupSub.putL {H : Hp} {l : Addr} {xs ys : List V} (h : H l = some (.lst xs)) : TupSub H (upd H l (.lst ys)) := fun _ _ hp => Rd.keepN (ne_of hp h (by intro z; cases z)) hp
def dat : V → PyData
  | .int i => .int i
  | .str s => .str s
  | _ => .none
def FlatV (v : V) : Prop := (∃ i, v = .int i) ∨ ∃ s, v = .str s ∧ PyData.strOk s = true
theorem dp_flat {K : PySem.W.Frag} {H : Hp} {v : V} (h : FlatV v) : Dp K H v (dat v) := by
  rcases h with ⟨i, rfl⟩ | ⟨s, rfl, _⟩
  · exact .int i
  · exact .str s
theorem lay_flat {v : V} (h : FlatV v) : (dat v).canLay0 = true ∧ (dat v).depth = 0 := by
  rcases h with ⟨i, rfl⟩ | ⟨s, rfl, h⟩
  · exact ⟨by simp [dat, PyData.canLay0], by simp [dat, PyData.depth]⟩
  · exact ⟨by simpa [dat, PyData.canLay0] using h, by simp [dat, PyData.depth]⟩
theorem row_lay : ∀ {r : List V}, (∀ v ∈ r, FlatV v) → PyData.canLayAll0 (r.map dat) = true ∧ PyData.depthAll (r.map dat) = 0
  | [], _ => by simp [PyData.canLayAll0, PyData.depthAll]
  | v :: r, h => by
    have h1 := lay_flat (h v (List.mem_cons_self ..))
    have h2 := row_lay (r := r) fun x hx => h x (List.mem_cons_of_mem _ hx)
    rw [List.map_cons]
    simp [PyData.canLayAll0, PyData.depthAll, h1, h2]
theorem rows_lay : ∀ {rs : List (List V)}, (∀ r ∈ rs, ∀ v ∈ r, FlatV v) → PyData.canLayAll0 (rs.map fun r => .tuple (r.map dat)) = true ∧ PyData.depthAll (rs.map fun r => .tuple (r.map dat)) ≤ 1
  | [], _ => by simp [PyData.canLayAll0, PyData.depthAll]
  | r :: rs, h => by
    have h1 := row_lay (h r (List.mem_cons_self ..))
    have h2 := rows_lay (rs := rs) fun x hx => h x (List.mem_cons_of_mem _ hx)
    rw [List.map_cons]
    have e : (PyData.tuple (r.map dat)).depth = 1 := by simp [PyData.depth, h1.2]
    have e2 : (PyData.tuple (r.map dat)).canLay0 = true := by simp [PyData.canLay0, h1.1]
    simp [PyData.canLayAll0, PyData.depthAll, h2, e, e2]
theorem dp_row {K : PySem.W.Frag} {H : Hp} : ∀ {r : List V}, (∀ v ∈ r, FlatV v) → DpAll K H r (r.map dat)
  | [], _ => .nil
  | v :: _, h => .cons (dp_flat (h v (List.mem_cons_self ..))) (dp_row fun x hx => h x (List.mem_cons_of_mem _ hx))
theorem dp_rows {K : PySem.W.Frag} {H : Hp} : ∀ {ps : List Addr} {rs : List (List V)}, Rows H ps rs → (∀ r ∈ rs, ∀ v ∈ r, FlatV v) → DpAll K H (ps.map V.ref) (rs.map fun r => .tuple (r.map dat))
  | [], [], _, _ => .nil
  | _ :: _, r :: _, h, hf => .cons (.tup (SqT.of h.1) (dp_row (hf r (List.mem_cons_self ..)))) (dp_rows h.2 fun x hx => hf x (List.mem_cons_of_mem _ hx))
  | [], _ :: _, h, _ => h.elim
  | _ :: _, [], h, _ => h.elim
theorem rows_shaped {rs : List (List V)} (h : ∀ r ∈ rs, ∀ v ∈ r, FlatV v) : SeqAt.shaped (.list (rs.map fun r => .tuple (r.map dat))) = true := by
  have q := rows_lay h
  have e : (PyData.list (rs.map fun r => .tuple (r.map dat))).depth ≤ 64 := by
    simp only [PyData.depth]
    omega
  have e2 : (PyData.list (rs.map fun r => .tuple (r.map dat))).canLay0 = true := by simp only [PyData.canLay0]; exact q.1
  unfold SeqAt.shaped
  rw [e2, decide_eq_true e]
  rfl
theorem TL.eq {K : PySem.W.Frag} {H : Hp} {l m : Addr} {rs : List (List V)} {Q : VK} (h1 : TL H l rs) (h2 : TL H m rs) (hf : ∀ r ∈ rs, ∀ v ∈ r, FlatV v) (q : Q (.bl true) H) : rEqD K (.ref l) (.ref m) H Q := by
  obtain ⟨ps, a1, a2⟩ := h1
  obtain ⟨qs, b1, b2⟩ := h2
  have s := rows_shaped hf
  refine ⟨_, _, .lst (SqL.of a1) (dp_rows a2 hf), .lst (SqL.of b1) (dp_rows b2 hf), s, s, ?_⟩
  rw [SeqAt.eqv_refl _ (SeqAt.canLay_of_shaped s)]
  exact q
theorem TL.neq {K : PySem.W.Frag} {H : Hp} {l m : Addr} {rs : List (List V)} {Q : VK} (h1 : TL H l rs) (h2 : TL H m rs) (hf : ∀ r ∈ rs, ∀ v ∈ r, FlatV v) (q : Q (.bl false) H) : rNeD K (.ref l) (.ref m) H Q := by
  obtain ⟨ps, a1, a2⟩ := h1
  obtain ⟨qs, b1, b2⟩ := h2
  have s := rows_shaped hf
  refine ⟨_, _, .lst (SqL.of a1) (dp_rows a2 hf), .lst (SqL.of b1) (dp_rows b2 hf), s, s, ?_⟩
  rw [SeqAt.eqv_refl _ (SeqAt.canLay_of_shaped s)]
  exact q
/-! ### changes, cells -/
def upS (b : Bool) : Str := if b = true then "up" else "down"
def upB (f : Int → Int) (t : Int) : Bool := decide (0 ≤ f t)
def chRow (f : Int → Int) (t : Int) : List V := [.int t, .str (upS (upB f t))]
/-- the changes behind s, n ticks on -/
def chg (f : Int → Int) (s : Int) : Nat → List (List V)
  | 0 => []
  | n + 1 => chg f s n ++ (if upB f (s + (n + 1 : Nat)) ≠ upB f (s + n) then [chRow f (s + (n + 1 : Nat))] else [])
def cRow (c : Int × Int) : List V := [.int c.1, .int c.2]
theorem cRow_flat (cs : List (Int × Int)) : ∀ r ∈ cs.map cRow, ∀ v ∈ r, FlatV v := by
  intro r hr v hv
  obtain ⟨c, _, rfl⟩ := List.mem_map.mp hr
  simp [cRow] at hv
  rcases hv with rfl | rfl
  · exact .inl ⟨_, rfl⟩
  · exact .inl ⟨_, rfl⟩
theorem upS_ok (b : Bool) : PyData.strOk (upS b) = true := by cases b <;> decide +kernel
theorem chRow_flat (f : Int → Int) (t : Int) : ∀ v ∈ chRow f t, FlatV v := by
  intro v hv
  simp [chRow] at hv
  rcases hv with rfl | rfl
  · exact .inl ⟨_, rfl⟩
  · exact .inr ⟨_, rfl, upS_ok _⟩
theorem chg_flat (f : Int → Int) (s : Int) : ∀ n, ∀ r ∈ chg f s n, ∀ v ∈ r, FlatV v
  | 0 => by intro r hr; cases hr
  | n + 1 => by
    intro r hr
    rw [chg, List.mem_append] at hr
    rcases hr with hr | hr
    · exact chg_flat f s n r hr
    · split at hr
      · rw [List.mem_singleton] at hr
        subst hr
        exact chRow_flat f _
      · cases hr
theorem chg_len (f : Int → Int) (s : Int) : ∀ n, (chg f s n).length ≤ n
  | 0 => Nat.le_refl _
  | n + 1 => by
    have := chg_len f s n
    rw [chg, List.length_append]
    split
    · rw [List.length_singleton]; omega
    · rw [List.length_nil]; omega
/-- the changes of cells, was: how the cell before is -/
def chOf (f : Int → Int) : Option Bool → List (Int × Int) → List (List V)
  | _, [] => []
  | none, c :: r => chOf f (some (upB f c.1)) r
  | some b, c :: r => (if upB f c.1 ≠ b then [chRow f c.1] else []) ++ chOf f (some (upB f c.1)) r
def sureB (D : Den) (c : Int × Int) : Bool := if 0 ≤ D.val c.1 then decide (D.far c.2 ≤ D.val c.1) else decide (D.far c.2 < -D.val c.1)
def covB (s e : Int) : List (Int × Int) → Bool
  | [] => decide (s = e + 1)
  | c :: r => decide (c.1 = s) && decide (0 ≤ c.2) && covB (s + c.2 + 1) e r
/-- the law's judge -/
def ltakes (D : Den) (s e : Int) : List (Int × Int) → Bool
  | [] => decide (s = e + 1)
  | c :: r => decide (c.1 = s) && decide (0 ≤ c.2) && decide (c.1 + c.2 ≤ e) && sureB D c && ltakes D (s + c.2 + 1) e r
theorem cov_le {e : Int} : ∀ {cs : List (Int × Int)} {s : Int}, covB s e cs = true → s ≤ e + 1
  | [], s, h => by
    have := of_decide_eq_true h
    omega
  | c :: r, s, h => by
    simp only [covB, Bool.and_eq_true, decide_eq_true_eq] at h
    have := cov_le h.2
    omega
theorem takes_eq (D : Den) (e : Int) : ∀ (cs : List (Int × Int)) (s : Int), (covB s e cs && cs.all (sureB D)) = ltakes D s e cs
  | [], s => by simp [covB, ltakes]
  | c :: r, s => by
    have ih := takes_eq D e r (s + c.2 + 1)
    by_cases h1 : c.1 = s
    · by_cases h2 : 0 ≤ c.2
      · by_cases h3 : c.1 + c.2 ≤ e
        · simp only [covB, ltakes, List.all_cons, decide_eq_true h1, decide_eq_true h2, decide_eq_true h3, Bool.true_and]
          rw [← ih]
          cases covB (s + c.2 + 1) e r <;> cases sureB D c <;> simp
        · have hc : covB (s + c.2 + 1) e r = false := by
            cases z : covB (s + c.2 + 1) e r with
            | false => rfl
            | true =>
              have := cov_le z
              omega
          simp [covB, ltakes, hc, h3]
      · simp [covB, ltakes, h2]
    · simp [covB, ltakes, h1]
/-- within a sure cell nothing turns -/
theorem sure_flat {D : Den} (good : Good true n D) {c : Int × Int} (h0 : 0 ≤ c.2) (h : sureB D c = true) : ∀ j : Nat, (j : Int) ≤ c.2 → upB D.val (c.1 + j) = upB D.val c.1 := by
  intro j hj
  have s := good.sound (c.1 + j) c.1 c.2 (by omega) (by omega)
  unfold sureB at h
  unfold upB
  by_cases z : 0 ≤ D.val c.1
  · rw [if_pos z] at h
    have h' := of_decide_eq_true h
    rw [decide_eq_true z, decide_eq_true (by omega)]
  · rw [if_neg z] at h
    have h' := of_decide_eq_true h
    rw [decide_eq_false z, decide_eq_false (by omega)]
theorem chg_add (f : Int → Int) (s : Int) (m : Nat) : ∀ n : Nat, chg f s (m + n) = chg f s m ++ chg f (s + m) n
  | 0 => by simp [chg]
  | n + 1 => by
    show chg f s (m + n) ++ (if upB f (s + ((m + n + 1 : Nat) : Int)) ≠ upB f (s + ((m + n : Nat) : Int)) then [chRow f (s + ((m + n + 1 : Nat) : Int))] else []) = _
    rw [chg_add f s m n, chg, List.append_assoc]
    have e1 : s + ((m + n + 1 : Nat) : Int) = s + (m : Int) + ((n + 1 : Nat) : Int) := by omega
    have e2 : s + ((m + n : Nat) : Int) = s + (m : Int) + (n : Int) := by omega
    rw [e1, e2]
theorem chg_const (f : Int → Int) (s : Int) (b : Bool) : ∀ n : Nat, (∀ j : Nat, j ≤ n → upB f (s + j) = b) → chg f s n = []
  | 0, _ => rfl
  | n + 1, h => by
    rw [chg, chg_const f s b n fun j hj => h j (by omega), h (n + 1) (by omega), h n (by omega)]
    simp
/-- behind a cell that ends at s - 1 and is b: the changes of the cells are all the changes -/
theorem chOf_some {n : Nat} {D : Den} (good : Good true n D) (e : Int) : ∀ (cs : List (Int × Int)) (s : Int) (b : Bool), covB s e cs = true → cs.all (sureB D) = true → upB D.val (s - 1) = b → chOf D.val (some b) cs = chg D.val (s - 1) (e + 1 - s).toNat
  | [], s, b, h, _, _ => by
    have := of_decide_eq_true h
    have z : (e + 1 - s).toNat = 0 := by omega
    rw [z]
    rfl
  | c :: r, s, b, h, ha, hb => by
    have hcov := h
    simp only [covB, Bool.and_eq_true, decide_eq_true_eq] at h
    simp only [List.all_cons, Bool.and_eq_true] at ha
    obtain ⟨⟨h1, h2⟩, h3⟩ := h
    have hle := cov_le h3
    have flat := sure_flat good h2 ha.1
    have last : upB D.val (s + c.2 + 1 - 1) = upB D.val c.1 := by
      have := flat c.2.toNat (by omega)
      rw [← this]
      congr 1
      omega
    have ih := chOf_some good e r (s + c.2 + 1) (upB D.val c.1) h3 ha.2 last
    have e1 : (e + 1 - s).toNat = 1 + (c.2.toNat + (e + 1 - (s + c.2 + 1)).toNat) := by omega
    rw [e1, chg_add, chg_add, chOf, ih]
    have p1 : chg D.val (s - 1) 1 = (if upB D.val c.1 ≠ b then [chRow D.val c.1] else []) := by
      show [] ++ _ = _
      rw [List.nil_append, show s - 1 + ((0 + 1 : Nat) : Int) = c.1 by omega, show s - 1 + ((0 : Nat) : Int) = s - 1 by omega, hb]
    have p2 : chg D.val (s - 1 + (1 : Nat)) c.2.toNat = [] := chg_const _ _ (upB D.val c.1) _ fun j hj => by
      have := flat j (by omega)
      rw [← this]
      congr 1
      omega
    rw [p1, p2, List.nil_append, show s - 1 + ((1 : Nat) : Int) + (c.2.toNat : Int) = s + c.2 + 1 - 1 by omega]
theorem chOf_all {n : Nat} {D : Den} (good : Good true n D) {s e : Int} {cs : List (Int × Int)} (hs : s ≤ e) (h : covB s e cs = true) (ha : cs.all (sureB D) = true) : chOf D.val none cs = chg D.val s (e - s).toNat := by
  cases cs with
  | nil =>
    have := of_decide_eq_true h
    omega
  | cons c r =>
    simp only [covB, Bool.and_eq_true, decide_eq_true_eq] at h
    simp only [List.all_cons, Bool.and_eq_true] at ha
    obtain ⟨⟨h1, h2⟩, h3⟩ := h
    have hle := cov_le h3
    have flat := sure_flat good h2 ha.1
    have last : upB D.val (s + c.2 + 1 - 1) = upB D.val c.1 := by
      have := flat c.2.toNat (by omega)
      rw [← this]
      congr 1
      omega
    have ih := chOf_some good e r (s + c.2 + 1) (upB D.val c.1) h3 ha.2 last
    have e1 : (e - s).toNat = c.2.toNat + (e + 1 - (s + c.2 + 1)).toNat := by omega
    rw [e1, chg_add, chOf, ih]
    have p2 : chg D.val s c.2.toNat = [] := chg_const _ _ (upB D.val c.1) _ fun j hj => by
      have := flat j (by omega)
      rw [← this]
      congr 1
      omega
    rw [p2, List.nil_append, show s + (c.2.toNat : Int) = s + c.2 + 1 - 1 by omega]

section
open Rd
variable {P : Program} {w : World} {K : PySem.W.Frag} {mg : Str → Option Value} {base : Heap}
def spVal (n : Nat) (k : Bool) : Sp := fun vs H Q _ => ∃ (v : V) (t : Int) (D : Den), vs = [v, .int t] ∧ Ex H n k v D ∧ n ≤ 12 ∧ ∀ H', Same H H' → Q (.int (D.val t)) H'
theorem val_go {H : Hp} {n : Nat} {k : Bool} {v : V} {t : Int} {D : Den} {Q : VK} {E : XK} (h : Ex H n k v D) (hn : n ≤ 12) (q : ∀ H', Same H H' → Q (.int (D.val t)) H') : CALL (spVal n k) [v, .int t] H Q E := ⟨v, t, D, rfl, h, hn, q⟩
end

section
open Rd
variable {P : Program} {w : World} {K : PySem.W.Frag} {mg : Str → Option Value} {base : Heap}
set_option maxHeartbeats 8000000 in
theorem ok_value (T0 : Txt K mg) : ∀ n : Nat, (∃ (f : Addr) (fd : FuncData), FnOk P w K mg base CX0 (n + 3) f fd ["q", "t"] (spVal n true) ∧ mg "value" = some (.ref f) ∧ PySem.W.keepIn K (.ref f) = true ∧ L2.Binds K fd ["q", "t"] []) ∧
    (∃ (f : Addr) (fd : FuncData), FnOk P w K mg base CX0 (n + 3) f fd ["a", "t"] (spVal n false) ∧ mg "angle_value" = some (.ref f) ∧ PySem.W.keepIn K (.ref f) = true ∧ L2.Binds K fd ["a", "t"] []) := by
  have T := T0
  obtain ⟨fq, fdq, Fq, gq, bq⟩ := T.d_value
  obtain ⟨fa, fda, Fa, ga, ba⟩ := T.d_angle_value
  obtain ⟨f_wave, fd_wave, G_wave, g_wave, kp_wave, b_wave⟩ := ok_wave (P := P) (w := w) (base := base) T
  intro n
  induction n with
  | zero =>
    exact ⟨⟨fq, fdq, never.imp (fun vs H Q E h => by obtain ⟨v, t, D, _, h, _⟩ := h; cases h), gq, Fq.kp, bq⟩, ⟨fa, fda, never.imp (fun vs H Q E h => by obtain ⟨v, t, D, _, h, _⟩ := h; cases h), ga, Fa.kp, ba⟩⟩
  | succ n ih =>
    obtain ⟨⟨f_value, fd_value, G_value, g_value, kp_value, b_value⟩, ⟨f_angle_value, fd_angle_value, G_angle_value, g_angle_value, kp_angle_value, b_angle_value⟩⟩ := ih
    refine ⟨⟨fq, fdq, ?_, gq, Fq.kp, bq⟩, ⟨fa, fda, ?_, ga, Fa.kp, ba⟩⟩
    · refine Fq.ok sc_value (fun vs H Q E h => ?_) (fun cdv A outer s H vs Q E hr h => ?_)
      · obtain ⟨v, t, D, rfl, _⟩ := h; rfl
      · obtain ⟨v, t, D, rfl, h, hn, q⟩ := h
        refine ⟨_, (pss_cons (ps_set (i := 2) sc_value.nd rfl (by first | exact Or.inl rfl | exact Or.inr rfl) (pe_ix ix_tup (pv 0) pe_int (fun _ _ => rfl)))
      (pss_cons (ps_if (pt_cmpR op_eq (pv 2) pe_str (nomark _)) (pss_one (ps_ret (pe_ix ix_tup (pv 0) pe_int (fun _ _ => rfl)))) pss_nil)
      (pss_cons (ps_if (pt_cmpR op_eq (pv 2) pe_str (nomark _)) (pss_one (ps_ret (pe_call G_wave (hr.mono (by omega)) (by rfl) g_wave kp_wave b_wave .nil pass0 (pa_cons (pe_call G_angle_value (hr.mono (by omega)) (by rfl) g_angle_value kp_angle_value b_angle_value .nil pass0 (pa_cons (pe_ix ix_tup (pv 0) pe_int (fun _ _ => rfl)) (pa_cons (pv 1) pa_nil))) pa_nil)))) pss_nil)
      (pss_cons (ps_if (pt_cmpR op_eq (pv 2) pe_str (nomark _)) (pss_one (ps_ret (pe_callB (cr_sum rfl) (by rfl) T.m_sum (by decide +kernel) (pa_cons (pe_lc (own := [("v", 3)]) (g := gName 3) (tt := tYes) (by rfl) sc_value.nd (pi_tup (pe_slice sl_tup (pv 0) (po_some pe_int) po_none)) (blkOk_by (own := [("v", 3)]) (N := ["q", "t", "word", "v"]) (sc := defScope s_value) (by decide +kernel)) (fun _ _ _ _ _ => (pg_name (i := 3) sc_value.nd rfl (Or.inl rfl))) (fun _ _ _ _ _ => pts_nil) (fun _ _ _ _ _ => (pe_call G_value (hr.mono (by omega)) (by rfl) g_value kp_value b_value .nil pass0 (pa_cons (pv 3) (pa_cons (pv 1) pa_nil))))) pa_nil)))) pss_nil)
      (pss_cons (ps_if (pt_cmpR op_eq (pv 2) pe_str (nomark _)) (pss_one (ps_ret (pe_op op_fdivW (pe_op op_mul (pe_call G_value (hr.mono (by omega)) (by rfl) g_value kp_value b_value .nil pass0 (pa_cons (pe_ix ix_tup (pv 0) pe_int (fun _ _ => rfl)) (pa_cons (pv 1) pa_nil))) (pe_ix ix_tup (pv 0) pe_int (fun _ _ => rfl))) (pe_ix ix_tup (pv 0) pe_int (fun _ _ => rfl))))) pss_nil)
      (pss_cons (ps_if (pt_cmpR op_eq (pv 2) pe_str (nomark _)) (pss_one (ps_ret (pe_op op_fdivW (pe_op op_mulW (pe_call G_value (hr.mono (by omega)) (by rfl) g_value kp_value b_value .nil pass0 (pa_cons (pe_ix ix_tup (pv 0) pe_int (fun _ _ => rfl)) (pa_cons (pv 1) pa_nil))) (pe_call G_value (hr.mono (by omega)) (by rfl) g_value kp_value b_value .nil pass0 (pa_cons (pe_ix ix_tup (pv 0) pe_int (fun _ _ => rfl)) (pa_cons (pv 1) pa_nil)))) (pe_ix ix_tup (pv 0) pe_int (fun _ _ => rfl))))) pss_nil)
      (pss_one (ps_ret (pe_call G_value (hr.mono (by omega)) (by rfl) g_value kp_value b_value .nil pass0 (pa_cons (pe_ix ix_tup (pv 0) pe_int (fun _ _ => rfl)) (pa_cons (pe_op op_add (pv 1) (pe_ix ix_tup (pv 0) pe_int (fun _ _ => rfl))) pa_nil))))))))))), ?_⟩
        refine Rd.start (σ' := [some v, some (.int t), none, none]) rfl ?_
        try dsimp only [cxOf, Cx.nox, Cx.wish]
        cases h with
        | @qnum _ p i h l =>
          walk_at "go"
          exact q _ (Same.refl _)
        | @qwave _ p b g h l =>
          walk_at "go"
          refine val_go l (by omega) fun H1 s1 => ?_
          walk_at "go"
          refine wave_go ?_
          walk_at "go"
          exact q _ s1
        | @qsum _ p xs gs h e l0 l1 l =>
          walk_at "go"
          refine Rd.slT1 (SqT.of h) fun p2 n2 => ?_
          walk_at "go"
          have sp : Same H (upd H p2 (.tup xs)) := Same.put n2
          refine Rd.lctMap (ys := (gs.map fun g => g.val t).map V.int) (σ0 := [some (.ref p), some (.int t), some (.str "sum"), none]) rfl (SqT.of upd_same) (by simp [e]) (by simp; omega) (fun i x y H' N hx hy sm hN => ?_) (fun D H' nD hD sm => ?_)
          · rw [List.map_map, List.getElem?_map] at hy
            obtain ⟨g, hg, rfl⟩ : ∃ g, gs[i]? = some g ∧ V.int (g.val t) = y := by
              cases hz : gs[i]? with
              | none => rw [hz] at hy; cases hy
              | some g => rw [hz] at hy; exact ⟨g, rfl, Option.some.inj hy⟩
            walk_at "go"
            refine val_go ((l i x g hx hg).sub (TupSub.same (sp.trans sm))) (by omega) fun H1 s1 => ?_
            exact hN _ s1
          · walk_at "go"
            refine Rd.sum1 (SqL.of hD) ?_
            walk_at "go"
            exact q _ (sp.trans sm)
        | @qshare _ p b g i d h l li ld =>
          obtain ⟨li1, li2⟩ := li
          obtain ⟨ld1, ld2⟩ := ld
          walk_at "go"
          refine val_go l (by omega) fun H1 s1 => ?_
          have h1 := s1 _ _ h
          walk_at "go"
          exact q _ s1
        | @qprod _ p b c g f d h l l2 ld =>
          obtain ⟨ld1, ld2⟩ := ld
          have z1 := l.size rfl t
          have z2 := l2.size rfl t
          have hW : CMulW (g.val t) (f.val t) := mulW_of (by omega) z1.1 z1.2 z2.1 z2.2
          walk_at "go"
          refine val_go l (by omega) fun H1 s1 => ?_
          have h1 := s1 _ _ h
          walk_at "go"
          refine val_go (l2.sub (TupSub.same s1)) (by omega) fun H2 s2 => ?_
          have h2 := s2 _ _ h1
          walk_at "go"
          exact q _ (s1.trans s2)
        | @qlater _ p b g i h l li =>
          walk_at "go"
          refine val_go l (by omega) fun H1 s1 => ?_
          exact q _ s1
    · refine Fa.ok sc_angle_value (fun vs H Q E h => ?_) (fun cdv A outer s H vs Q E hr h => ?_)
      · obtain ⟨v, t, D, rfl, _⟩ := h; rfl
      · obtain ⟨v, t, D, rfl, h, hn, q⟩ := h
        refine ⟨_, (pss_cons (ps_set (i := 2) sc_angle_value.nd rfl (by first | exact Or.inl rfl | exact Or.inr rfl) (pe_ix ix_tup (pv 0) pe_int (fun _ _ => rfl)))
      (pss_cons (ps_if (pt_cmpR op_eq (pv 2) pe_str (nomark _)) (pss_one (ps_ret (pe_op op_add (pe_ix ix_tup (pv 0) pe_int (fun _ _ => rfl)) (pe_op op_fdivW (pe_op op_mul (pe_ix ix_tup (pv 0) pe_int (fun _ _ => rfl)) (pv 1)) (pe_ix ix_tup (pv 0) pe_int (fun _ _ => rfl)))))) pss_nil)
      (pss_cons (ps_if (pt_cmpR op_eq (pv 2) pe_str (nomark _)) (pss_one (ps_ret (pe_op op_add (pe_call G_angle_value (hr.mono (by omega)) (by rfl) g_angle_value kp_angle_value b_angle_value .nil pass0 (pa_cons (pe_ix ix_tup (pv 0) pe_int (fun _ _ => rfl)) (pa_cons (pv 1) pa_nil))) (pe_call G_value (hr.mono (by omega)) (by rfl) g_value kp_value b_value .nil pass0 (pa_cons (pe_ix ix_tup (pv 0) pe_int (fun _ _ => rfl)) (pa_cons (pv 1) pa_nil)))))) pss_nil)
      (pss_one (ps_ret (pe_op op_sub (pe_call G_angle_value (hr.mono (by omega)) (by rfl) g_angle_value kp_angle_value b_angle_value .nil pass0 (pa_cons (pe_ix ix_tup (pv 0) pe_int (fun _ _ => rfl)) (pa_cons (pv 1) pa_nil))) (pe_call G_angle_value (hr.mono (by omega)) (by rfl) g_angle_value kp_angle_value b_angle_value .nil pass0 (pa_cons (pe_ix ix_tup (pv 0) pe_int (fun _ _ => rfl)) (pa_cons (pv 1) pa_nil))))))))), ?_⟩
        refine Rd.start (σ' := [some v, some (.int t), none]) rfl ?_
        try dsimp only [cxOf, Cx.nox, Cx.wish]
        cases h with
        | @aturn _ p s i d h ls li ld =>
          obtain ⟨li1, li2⟩ := li
          obtain ⟨ld1, ld2⟩ := ld
          walk_at "go"
          exact q _ (Same.refl _)
        | @amoved _ p b c g f h l l2 =>
          walk_at "go"
          refine val_go l (by omega) fun H1 s1 => ?_
          have h1 := s1 _ _ h
          walk_at "go"
          refine val_go (l2.sub (TupSub.same s1)) (by omega) fun H2 s2 => ?_
          have h2 := s2 _ _ h1
          walk_at "go"
          exact q _ (s1.trans s2)
        | @aminus _ p b c g f h l l2 =>
          walk_at "go"
          refine val_go l (by omega) fun H1 s1 => ?_
          have h1 := s1 _ _ h
          walk_at "go"
          refine val_go (l2.sub (TupSub.same s1)) (by omega) fun H2 s2 => ?_
          have h2 := s2 _ _ h1
          walk_at "go"
          exact q _ (s1.trans s2)
end

section
open Rd
variable {P : Program} {w : World} {K : PySem.W.Frag} {mg : Str → Option Value} {base : Heap}
set_option maxHeartbeats 8000000 in
theorem ok__law_value (T0 : Txt K mg) : ∀ n : Nat, (∃ (f : Addr) (fd : FuncData), FnOk P w K mg base CX0 (n + 3) f fd ["q", "t"] (spVal n true) ∧ mg "_law_value" = some (.ref f) ∧ PySem.W.keepIn K (.ref f) = true ∧ L2.Binds K fd ["q", "t"] []) ∧
    (∃ (f : Addr) (fd : FuncData), FnOk P w K mg base CX0 (n + 3) f fd ["a", "t"] (spVal n false) ∧ mg "_law_angle_at" = some (.ref f) ∧ PySem.W.keepIn K (.ref f) = true ∧ L2.Binds K fd ["a", "t"] []) := by
  have T := T0
  obtain ⟨fq, fdq, Fq, gq, bq⟩ := T.d__law_value
  obtain ⟨fa, fda, Fa, ga, ba⟩ := T.d__law_angle_at
  obtain ⟨f__law_wave, fd__law_wave, G__law_wave, g__law_wave, kp__law_wave, b__law_wave⟩ := ok_lwave (P := P) (w := w) (base := base) T
  intro n
  induction n with
  | zero =>
    exact ⟨⟨fq, fdq, never.imp (fun vs H Q E h => by obtain ⟨v, t, D, _, h, _⟩ := h; cases h), gq, Fq.kp, bq⟩, ⟨fa, fda, never.imp (fun vs H Q E h => by obtain ⟨v, t, D, _, h, _⟩ := h; cases h), ga, Fa.kp, ba⟩⟩
  | succ n ih =>
    obtain ⟨⟨f__law_value, fd__law_value, G__law_value, g__law_value, kp__law_value, b__law_value⟩, ⟨f__law_angle_at, fd__law_angle_at, G__law_angle_at, g__law_angle_at, kp__law_angle_at, b__law_angle_at⟩⟩ := ih
    refine ⟨⟨fq, fdq, ?_, gq, Fq.kp, bq⟩, ⟨fa, fda, ?_, ga, Fa.kp, ba⟩⟩
    · refine Fq.ok sc__law_value (fun vs H Q E h => ?_) (fun cdv A outer s H vs Q E hr h => ?_)
      · obtain ⟨v, t, D, rfl, _⟩ := h; rfl
      · obtain ⟨v, t, D, rfl, h, hn, q⟩ := h
        refine ⟨_, (pss_cons (ps_if (pt_cmpR op_eq (pe_ix ix_tup (pv 0) pe_int (fun _ _ => rfl)) pe_str (nomark _)) (pss_one (ps_ret (pe_ix ix_tup (pv 0) pe_int (fun _ _ => rfl)))) pss_nil)
      (pss_cons (ps_if (pt_cmpR op_eq (pe_ix ix_tup (pv 0) pe_int (fun _ _ => rfl)) pe_str (nomark _)) (pss_one (ps_ret (pe_call G__law_wave (hr.mono (by omega)) (by rfl) g__law_wave kp__law_wave b__law_wave .nil pass0 (pa_cons (pe_call G__law_angle_at (hr.mono (by omega)) (by rfl) g__law_angle_at kp__law_angle_at b__law_angle_at .nil pass0 (pa_cons (pe_ix ix_tup (pv 0) pe_int (fun _ _ => rfl)) (pa_cons (pv 1) pa_nil))) pa_nil)))) pss_nil)
      (pss_cons (ps_if (pt_cmpR op_eq (pe_ix ix_tup (pv 0) pe_int (fun _ _ => rfl)) pe_str (nomark _)) (pss_one (ps_ret (pe_callB (cr_sum rfl) (by rfl) T.m_sum (by decide +kernel) (pa_cons (pe_lc (own := [("part", 2)]) (g := gName 2) (tt := tYes) (by rfl) sc__law_value.nd (pi_tup (pe_slice sl_tup (pv 0) (po_some pe_int) po_none)) (blkOk_by (own := [("part", 2)]) (N := ["q", "t", "part"]) (sc := defScope s__law_value) (by decide +kernel)) (fun _ _ _ _ _ => (pg_name (i := 2) sc__law_value.nd rfl (Or.inl rfl))) (fun _ _ _ _ _ => pts_nil) (fun _ _ _ _ _ => (pe_call G__law_value (hr.mono (by omega)) (by rfl) g__law_value kp__law_value b__law_value .nil pass0 (pa_cons (pv 2) (pa_cons (pv 1) pa_nil))))) pa_nil)))) pss_nil)
      (pss_cons (ps_if (pt_cmpR op_eq (pe_ix ix_tup (pv 0) pe_int (fun _ _ => rfl)) pe_str (nomark _)) (pss_one (ps_ret (pe_op op_fdivW (pe_op op_mul (pe_call G__law_value (hr.mono (by omega)) (by rfl) g__law_value kp__law_value b__law_value .nil pass0 (pa_cons (pe_ix ix_tup (pv 0) pe_int (fun _ _ => rfl)) (pa_cons (pv 1) pa_nil))) (pe_ix ix_tup (pv 0) pe_int (fun _ _ => rfl))) (pe_ix ix_tup (pv 0) pe_int (fun _ _ => rfl))))) pss_nil)
      (pss_cons (ps_if (pt_cmpR op_eq (pe_ix ix_tup (pv 0) pe_int (fun _ _ => rfl)) pe_str (nomark _)) (pss_one (ps_ret (pe_op op_fdivW (pe_op op_mulW (pe_call G__law_value (hr.mono (by omega)) (by rfl) g__law_value kp__law_value b__law_value .nil pass0 (pa_cons (pe_ix ix_tup (pv 0) pe_int (fun _ _ => rfl)) (pa_cons (pv 1) pa_nil))) (pe_call G__law_value (hr.mono (by omega)) (by rfl) g__law_value kp__law_value b__law_value .nil pass0 (pa_cons (pe_ix ix_tup (pv 0) pe_int (fun _ _ => rfl)) (pa_cons (pv 1) pa_nil)))) (pe_ix ix_tup (pv 0) pe_int (fun _ _ => rfl))))) pss_nil)
      (pss_one (ps_ret (pe_call G__law_value (hr.mono (by omega)) (by rfl) g__law_value kp__law_value b__law_value .nil pass0 (pa_cons (pe_ix ix_tup (pv 0) pe_int (fun _ _ => rfl)) (pa_cons (pe_op op_add (pv 1) (pe_ix ix_tup (pv 0) pe_int (fun _ _ => rfl))) pa_nil)))))))))), ?_⟩
        refine Rd.start (σ' := [some v, some (.int t), none]) rfl ?_
        try dsimp only [cxOf, Cx.nox, Cx.wish]
        cases h with
        | @qnum _ p i h l =>
          walk_at "go"
          exact q _ (Same.refl _)
        | @qwave _ p b g h l =>
          walk_at "go"
          refine val_go l (by omega) fun H1 s1 => ?_
          walk_at "go"
          refine wave_go ?_
          walk_at "go"
          exact q _ s1
        | @qsum _ p xs gs h e l0 l1 l =>
          walk_at "go"
          refine Rd.slT1 (SqT.of h) fun p2 n2 => ?_
          walk_at "go"
          have sp : Same H (upd H p2 (.tup xs)) := Same.put n2
          refine Rd.lctMap (ys := (gs.map fun g => g.val t).map V.int) (σ0 := [some (.ref p), some (.int t), none]) rfl (SqT.of upd_same) (by simp [e]) (by simp; omega) (fun i x y H' N hx hy sm hN => ?_) (fun D H' nD hD sm => ?_)
          · rw [List.map_map, List.getElem?_map] at hy
            obtain ⟨g, hg, rfl⟩ : ∃ g, gs[i]? = some g ∧ V.int (g.val t) = y := by
              cases hz : gs[i]? with
              | none => rw [hz] at hy; cases hy
              | some g => rw [hz] at hy; exact ⟨g, rfl, Option.some.inj hy⟩
            walk_at "go"
            refine val_go ((l i x g hx hg).sub (TupSub.same (sp.trans sm))) (by omega) fun H1 s1 => ?_
            exact hN _ s1
          · walk_at "go"
            refine Rd.sum1 (SqL.of hD) ?_
            walk_at "go"
            exact q _ (sp.trans sm)
        | @qshare _ p b g i d h l li ld =>
          obtain ⟨li1, li2⟩ := li
          obtain ⟨ld1, ld2⟩ := ld
          walk_at "go"
          refine val_go l (by omega) fun H1 s1 => ?_
          have h1 := s1 _ _ h
          walk_at "go"
          exact q _ s1
        | @qprod _ p b c g f d h l l2 ld =>
          obtain ⟨ld1, ld2⟩ := ld
          have z1 := l.size rfl t
          have z2 := l2.size rfl t
          have hW : CMulW (g.val t) (f.val t) := mulW_of (by omega) z1.1 z1.2 z2.1 z2.2
          walk_at "go"
          refine val_go l (by omega) fun H1 s1 => ?_
          have h1 := s1 _ _ h
          walk_at "go"
          refine val_go (l2.sub (TupSub.same s1)) (by omega) fun H2 s2 => ?_
          have h2 := s2 _ _ h1
          walk_at "go"
          exact q _ (s1.trans s2)
        | @qlater _ p b g i h l li =>
          walk_at "go"
          refine val_go l (by omega) fun H1 s1 => ?_
          exact q _ s1
    · refine Fa.ok sc__law_angle_at (fun vs H Q E h => ?_) (fun cdv A outer s H vs Q E hr h => ?_)
      · obtain ⟨v, t, D, rfl, _⟩ := h; rfl
      · obtain ⟨v, t, D, rfl, h, hn, q⟩ := h
        refine ⟨_, (pss_cons (ps_if (pt_cmpR op_eq (pe_ix ix_tup (pv 0) pe_int (fun _ _ => rfl)) pe_str (nomark _)) (pss_one (ps_ret (pe_op op_add (pe_ix ix_tup (pv 0) pe_int (fun _ _ => rfl)) (pe_op op_fdivW (pe_op op_mul (pe_ix ix_tup (pv 0) pe_int (fun _ _ => rfl)) (pv 1)) (pe_ix ix_tup (pv 0) pe_int (fun _ _ => rfl)))))) pss_nil)
      (pss_cons (ps_if (pt_cmpR op_eq (pe_ix ix_tup (pv 0) pe_int (fun _ _ => rfl)) pe_str (nomark _)) (pss_one (ps_ret (pe_op op_add (pe_call G__law_angle_at (hr.mono (by omega)) (by rfl) g__law_angle_at kp__law_angle_at b__law_angle_at .nil pass0 (pa_cons (pe_ix ix_tup (pv 0) pe_int (fun _ _ => rfl)) (pa_cons (pv 1) pa_nil))) (pe_call G__law_value (hr.mono (by omega)) (by rfl) g__law_value kp__law_value b__law_value .nil pass0 (pa_cons (pe_ix ix_tup (pv 0) pe_int (fun _ _ => rfl)) (pa_cons (pv 1) pa_nil)))))) pss_nil)
      (pss_one (ps_ret (pe_op op_sub (pe_call G__law_angle_at (hr.mono (by omega)) (by rfl) g__law_angle_at kp__law_angle_at b__law_angle_at .nil pass0 (pa_cons (pe_ix ix_tup (pv 0) pe_int (fun _ _ => rfl)) (pa_cons (pv 1) pa_nil))) (pe_call G__law_angle_at (hr.mono (by omega)) (by rfl) g__law_angle_at kp__law_angle_at b__law_angle_at .nil pass0 (pa_cons (pe_ix ix_tup (pv 0) pe_int (fun _ _ => rfl)) (pa_cons (pv 1) pa_nil)))))))), ?_⟩
        refine Rd.start (σ' := [some v, some (.int t)]) rfl ?_
        try dsimp only [cxOf, Cx.nox, Cx.wish]
        cases h with
        | @aturn _ p s i d h ls li ld =>
          obtain ⟨li1, li2⟩ := li
          obtain ⟨ld1, ld2⟩ := ld
          walk_at "go"
          exact q _ (Same.refl _)
        | @amoved _ p b c g f h l l2 =>
          walk_at "go"
          refine val_go l (by omega) fun H1 s1 => ?_
          have h1 := s1 _ _ h
          walk_at "go"
          refine val_go (l2.sub (TupSub.same s1)) (by omega) fun H2 s2 => ?_
          have h2 := s2 _ _ h1
          walk_at "go"
          exact q _ (s1.trans s2)
        | @aminus _ p b c g f h l l2 =>
          walk_at "go"
          refine val_go l (by omega) fun H1 s1 => ?_
          have h1 := s1 _ _ h
          walk_at "go"
          refine val_go (l2.sub (TupSub.same s1)) (by omega) fun H2 s2 => ?_
          have h2 := s2 _ _ h1
          walk_at "go"
          exact q _ (s1.trans s2)
end

section
open Rd
variable {P : Program} {w : World} {K : PySem.W.Frag} {mg : Str → Option Value} {base : Heap}
theorem min_cap (top far : Int) : (if 2 * top < far then 2 * top else far) = cap top far := rfl
def spInt2 (pre : Int → Int → Prop) (g : Int → Int → Int) : Sp := fun vs H Q _ => ∃ a b : Int, vs = [.int a, .int b] ∧ pre a b ∧ Q (.int (g a b)) H
theorem int2_go {pre : Int → Int → Prop} {g : Int → Int → Int} {H : Hp} {a b : Int} {Q : VK} {E : XK} (h : pre a b) (q : Q (.int (g a b)) H) : CALL (spInt2 pre g) [.int a, .int b] H Q E := ⟨a, b, rfl, h, q⟩
abbrev rupPre (_ d : Int) : Prop := 1 ≤ d ∧ d ≤ 1000000000000
set_option maxHeartbeats 4000000 in
theorem ok_rup (T : Txt K mg) : ∃ (f : Addr) (fd : FuncData), FnOk P w K mg base CX0 1 f fd ["n", "d"] (spInt2 rupPre rup) ∧ mg "_rounded_up" = some (.ref f) ∧ PySem.W.keepIn K (.ref f) = true ∧ L2.Binds K fd ["n", "d"] [] := by
  obtain ⟨f, fd, F, g, bi⟩ := T.d__rounded_up
  refine ⟨f, fd, ?_, g, F.kp, bi⟩
  refine F.ok sc__rounded_up (fun vs H Q E h => ?_) (fun cdv A outer s H vs Q E hr h => ?_)
  · obtain ⟨a, b, rfl, _⟩ := h; rfl
  · obtain ⟨a, b, rfl, ⟨h0, h1⟩, q⟩ := h
    refine ⟨_, (pss_one (ps_ret (pe_un un_neg (pe_op op_fdivW (pe_un un_neg (pv 0)) (pv 1))))), ?_⟩
    refine Rd.start (σ' := [some (.int a), some (.int b)]) rfl ?_
    try dsimp only [cxOf, Cx.nox, Cx.wish]
    walk_at "go"
    exact q
def spWfar : Sp := fun vs H Q _ => ∃ a : Int, vs = [.int a] ∧ Q (.int (wfar a)) H
theorem wfar_go {H : Hp} {a : Int} {Q : VK} {E : XK} (q : Q (.int (wfar a)) H) : CALL spWfar [.int a] H Q E := ⟨a, rfl, q⟩
set_option maxHeartbeats 4000000 in
theorem ok_wfar (T : Txt K mg) : ∃ (f : Addr) (fd : FuncData), FnOk P w K mg base CX0 1 f fd ["far"] spWfar ∧ mg "_wave_reach" = some (.ref f) ∧ PySem.W.keepIn K (.ref f) = true ∧ L2.Binds K fd ["far"] [] := by
  obtain ⟨f, fd, F, g, bi⟩ := T.d__wave_reach
  refine ⟨f, fd, ?_, g, F.kp, bi⟩
  refine F.ok sc__wave_reach (fun vs H Q E h => ?_) (fun cdv A outer s H vs Q E hr h => ?_)
  · obtain ⟨a, rfl, _⟩ := h; rfl
  · obtain ⟨a, rfl, q⟩ := h
    refine ⟨_, (pss_cons (ps_if (pt_cmpR op_eq (pv 0) pe_int (nomark _)) (pss_one (ps_ret pe_int)) pss_nil)
      (pss_one (ps_ret (pe_op op_add (pe_op op_fdivW (pe_op op_mul pe_int (pv 0)) pe_int) pe_int)))), ?_⟩
    refine Rd.start (σ' := [some (.int a)]) rfl ?_
    try dsimp only [cxOf, Cx.nox, Cx.wish]
    unfold wfar at q
    by_cases z : a = 0
    · rw [if_pos z] at q
      walk_at "go"
      exact q
    · rw [if_neg z] at q
      walk_at "go"
      exact q
/-- a pair's promise: the most, and some reach that is the reach when capped -/
def spPair (n : Nat) (ok : Den → Int → Int → Prop) : Sp := fun vs H Q _ => ∃ (v : V) (k : Int) (D : Den), vs = [v, .int k] ∧ Ex H n true v D ∧ n ≤ 12 ∧ 0 ≤ k ∧ ∀ H' p x, Same H H' → H p = none → H' p = some (.tup [.int D.most, .int x]) → ok D k x → Q (.ref p) H'
theorem pair_go {ok : Den → Int → Int → Prop} {H : Hp} {n : Nat} {v : V} {k : Int} {D : Den} {Q : VK} {E : XK} (h : Ex H n true v D) (hn : n ≤ 12) (h0 : 0 ≤ k) (q : ∀ H' p x, Same H H' → H p = none → H' p = some (.tup [.int D.most, .int x]) → ok D k x → Q (.ref p) H') : CALL (spPair n ok) [v, .int k] H Q E := ⟨v, k, D, rfl, h, hn, h0, q⟩
abbrev okU (D : Den) (k x : Int) : Prop := cap D.most x = D.far k
abbrev okM (D : Den) (k x : Int) : Prop := x = D.far k
def spFar (n : Nat) (b : Bool) : Sp := fun vs H Q _ => ∃ (v : V) (k : Int) (D : Den), vs = [v, .int k] ∧ Ex H n b v D ∧ n ≤ 12 ∧ 0 ≤ k ∧ ∀ H', Same H H' → Q (.int (D.far k)) H'
theorem far_go {H : Hp} {n : Nat} {b : Bool} {v : V} {k : Int} {D : Den} {Q : VK} {E : XK} (h : Ex H n b v D) (hn : n ≤ 12) (h0 : 0 ≤ k) (q : ∀ H', Same H H' → Q (.int (D.far k)) H') : CALL (spFar n b) [v, .int k] H Q E := ⟨v, k, D, rfl, h, hn, h0, q⟩
def spMost (n : Nat) : Sp := fun vs H Q _ => ∃ (v : V) (D : Den), vs = [v] ∧ Ex H n true v D ∧ n ≤ 12 ∧ ∀ H', Same H H' → Q (.int D.most) H'
theorem most_go {H : Hp} {n : Nat} {v : V} {D : Den} {Q : VK} {E : XK} (h : Ex H n true v D) (hn : n ≤ 12) (q : ∀ H', Same H H' → Q (.int D.most) H') : CALL (spMost n) [v] H Q E := ⟨v, D, rfl, h, hn, q⟩
set_option maxHeartbeats 8000000 in
theorem ok_pairM (T : Txt K mg) (n : Nat) (l : Nat) (U : ∃ (f : Addr) (fd : FuncData), FnOk P w K mg base CX0 l f fd ["q", "k"] (spPair n okU) ∧ mg "_uncapped" = some (.ref f) ∧ PySem.W.keepIn K (.ref f) = true ∧ L2.Binds K fd ["q", "k"] []) :
    ∃ (f : Addr) (fd : FuncData), FnOk P w K mg base CX0 (l + 1) f fd ["q", "k"] (spPair n okM) ∧ mg "_most_and_reach" = some (.ref f) ∧ PySem.W.keepIn K (.ref f) = true ∧ L2.Binds K fd ["q", "k"] [] := by
  obtain ⟨f, fd, F, g, bi⟩ := T.d__most_and_reach
  obtain ⟨f__uncapped, fd__uncapped, G__uncapped, g__uncapped, kp__uncapped, b__uncapped⟩ := U
  refine ⟨f, fd, ?_, g, F.kp, bi⟩
  refine F.ok sc__most_and_reach (fun vs H Q E h => ?_) (fun cdv A outer s H vs Q E hr h => ?_)
  · obtain ⟨v, k, D, rfl, _⟩ := h; rfl
  · obtain ⟨v, k, D, rfl, h, hn, h0, q⟩ := h
    refine ⟨_, (pss_cons (ps_asg (pe_call G__uncapped (hr.mono (by omega)) (by rfl) g__uncapped kp__uncapped b__uncapped .nil pass0 (pa_cons (pv 0) (pa_cons (pv 1) pa_nil))) (pg_tup (by rfl) (pgs_cons (pg_name (i := 2) sc__most_and_reach.nd rfl (by first | exact Or.inl rfl | exact Or.inr rfl)) (pgs_cons (pg_name (i := 3) sc__most_and_reach.nd rfl (by first | exact Or.inl rfl | exact Or.inr rfl)) pgs_nil))))
      (pss_one (ps_ret (pe_tup (pa_cons (pv 2) (pa_cons (pe_callB (call_min2 rfl) (by rfl) T.m_min (by decide +kernel) (pa_cons (pv 3) (pa_cons (pe_op op_mul pe_int (pv 2)) pa_nil))) pa_nil)))))), ?_⟩
    refine Rd.start (σ' := [some v, some (.int k), none, none]) rfl ?_
    try dsimp only [cxOf, Cx.nox, Cx.wish]
    walk_at "go"
    refine pair_go h hn h0 fun H1 p x s1 np hp e => ?_
    walk_at "go"
    rw [min_cap, show cap D.most x = D.far k from e]
    walk_at "go"
    refine Rd.new (by simp) fun p2 np2 => ?_
    exact q _ p2 _ (s1.trans (Same.put np2)) (by cases z : H p2 with | none => rfl | some o => rw [s1 _ _ z] at np2; cases np2) upd_same rfl
set_option maxHeartbeats 8000000 in
theorem ok_reach (T : Txt K mg) (n : Nat) (l : Nat) (M : ∃ (f : Addr) (fd : FuncData), FnOk P w K mg base CX0 l f fd ["q", "k"] (spPair n okM) ∧ mg "_most_and_reach" = some (.ref f) ∧ PySem.W.keepIn K (.ref f) = true ∧ L2.Binds K fd ["q", "k"] []) :
    ∃ (f : Addr) (fd : FuncData), FnOk P w K mg base CX0 (l + 1) f fd ["q", "k"] (spFar n true) ∧ mg "reach" = some (.ref f) ∧ PySem.W.keepIn K (.ref f) = true ∧ L2.Binds K fd ["q", "k"] [] := by
  obtain ⟨f, fd, F, g, bi⟩ := T.d_reach
  obtain ⟨f__most_and_reach, fd__most_and_reach, G__most_and_reach, g__most_and_reach, kp__most_and_reach, b__most_and_reach⟩ := M
  refine ⟨f, fd, ?_, g, F.kp, bi⟩
  refine F.ok sc_reach (fun vs H Q E h => ?_) (fun cdv A outer s H vs Q E hr h => ?_)
  · obtain ⟨v, k, D, rfl, _⟩ := h; rfl
  · obtain ⟨v, k, D, rfl, h, hn, h0, q⟩ := h
    refine ⟨_, (pss_one (ps_ret (pe_ix ix_tup (pe_call G__most_and_reach (hr.mono (by omega)) (by rfl) g__most_and_reach kp__most_and_reach b__most_and_reach .nil pass0 (pa_cons (pv 0) (pa_cons (pv 1) pa_nil))) pe_int (fun _ _ => rfl)))), ?_⟩
    refine Rd.start (σ' := [some v, some (.int k)]) rfl ?_
    try dsimp only [cxOf, Cx.nox, Cx.wish]
    walk_at "go"
    refine pair_go h hn h0 fun H1 p x s1 np hp e => ?_
    walk_at "go"
    cases e
    exact q _ s1
theorem okU_of {D : Den} {top x k : Int} (e : D.most = top) (e2 : D.far k = cap top x) : okU D k x := by show cap D.most x = D.far k; rw [e, e2]
set_option maxHeartbeats 16000000 in
theorem ok_unc (T : Txt K mg) (n : Nat) (M : ∃ (f : Addr) (fd : FuncData), FnOk P w K mg base CX0 (3 * n + 3) f fd ["q", "k"] (spPair n okM) ∧ mg "_most_and_reach" = some (.ref f) ∧ PySem.W.keepIn K (.ref f) = true ∧ L2.Binds K fd ["q", "k"] [])
    (A : ∃ (f : Addr) (fd : FuncData), FnOk P w K mg base CX0 (3 * n + 3) f fd ["a", "k"] (spFar n false) ∧ mg "angle_reach" = some (.ref f) ∧ PySem.W.keepIn K (.ref f) = true ∧ L2.Binds K fd ["a", "k"] []) :
    ∃ (f : Addr) (fd : FuncData), FnOk P w K mg base CX0 (3 * n + 4) f fd ["q", "k"] (spPair (n + 1) okU) ∧ mg "_uncapped" = some (.ref f) ∧ PySem.W.keepIn K (.ref f) = true ∧ L2.Binds K fd ["q", "k"] [] := by
  obtain ⟨f, fd, F, g, bi⟩ := T.d__uncapped
  obtain ⟨f__most_and_reach, fd__most_and_reach, G__most_and_reach, g__most_and_reach, kp__most_and_reach, b__most_and_reach⟩ := M
  obtain ⟨f_angle_reach, fd_angle_reach, G_angle_reach, g_angle_reach, kp_angle_reach, b_angle_reach⟩ := A
  obtain ⟨f__rounded_up, fd__rounded_up, G__rounded_up, g__rounded_up, kp__rounded_up, b__rounded_up⟩ := ok_rup (P := P) (w := w) (base := base) T
  obtain ⟨f__wave_reach, fd__wave_reach, G__wave_reach, g__wave_reach, kp__wave_reach, b__wave_reach⟩ := ok_wfar (P := P) (w := w) (base := base) T
  obtain ⟨_, cWAVE_MOST⟩ := T.c_WAVE_MOST
  refine ⟨f, fd, ?_, g, F.kp, bi⟩
  refine F.ok sc__uncapped (fun vs H Q E h => ?_) (fun cdv A outer s H vs Q E hr h => ?_)
  · obtain ⟨v, k, D, rfl, _⟩ := h; rfl
  · obtain ⟨v, k, D, rfl, h, hn, h0, q⟩ := h
    refine ⟨_, (pss_cons (ps_set (i := 2) sc__uncapped.nd rfl (by first | exact Or.inl rfl | exact Or.inr rfl) (pe_ix ix_tup (pv 0) pe_int (fun _ _ => rfl)))
      (pss_cons (ps_if (pt_cmpR op_eq (pv 2) pe_str (nomark _)) (pss_one (ps_ret (pe_tup (pa_cons (pe_callB call_abs (by rfl) T.m_abs (by decide +kernel) (pa_cons (pe_ix ix_tup (pv 0) pe_int (fun _ _ => rfl)) pa_nil)) (pa_cons pe_int pa_nil))))) pss_nil)
      (pss_cons (ps_if (pt_cmpR op_eq (pv 2) pe_str (nomark _)) (pss_one (ps_ret (pe_tup (pa_cons (pe_glob (v := .int (1000000)) rfl cWAVE_MOST ⟨_, rfl⟩) (pa_cons (pe_call G__wave_reach (hr.mono (by omega)) (by rfl) g__wave_reach kp__wave_reach b__wave_reach .nil pass0 (pa_cons (pe_call G_angle_reach (hr.mono (by omega)) (by rfl) g_angle_reach kp_angle_reach b_angle_reach .nil pass0 (pa_cons (pe_ix ix_tup (pv 0) pe_int (fun _ _ => rfl)) (pa_cons (pv 1) pa_nil))) pa_nil)) pa_nil))))) pss_nil)
      (pss_cons (ps_if (pt_cmpR op_eq (pv 2) pe_str (nomark _)) (pss_cons (ps_setLc (i := 3) (own := [("v", 9)]) (g := gName 9) (tt := tYes) (by rfl) sc__uncapped.nd rfl rfl (sw_true rfl rfl rfl (by decide +kernel)) (pi_tup (pe_slice sl_tup (pv 0) (po_some pe_int) po_none)) (blkOk_by (own := [("v", 9)]) (N := ["q", "k", "word", "parts", "top", "far", "size", "other_top", "other_far", "v", "part"]) (sc := defScope s__uncapped) (by decide +kernel)) (fun _ _ _ _ _ => (pg_name (i := 9) sc__uncapped.nd rfl (Or.inl rfl))) (fun _ _ _ _ _ => pts_nil) (fun _ _ _ _ _ => (pe_call G__most_and_reach (hr.mono (by omega)) (by rfl) g__most_and_reach kp__most_and_reach b__most_and_reach .nil pass0 (pa_cons (pv 9) (pa_cons (pv 1) pa_nil)))))
      (pss_one (ps_ret (pe_tup (pa_cons (pe_callB (cr_sum rfl) (by rfl) T.m_sum (by decide +kernel) (pa_cons (pe_lc (own := [("part", 10)]) (g := gName 10) (tt := tYes) (by rfl) sc__uncapped.nd (pi_list (pv 3)) (blkOk_by (own := [("part", 10)]) (N := ["q", "k", "word", "parts", "top", "far", "size", "other_top", "other_far", "v", "part"]) (sc := defScope s__uncapped) (by decide +kernel)) (fun _ _ _ _ _ => (pg_name (i := 10) sc__uncapped.nd rfl (Or.inl rfl))) (fun _ _ _ _ _ => pts_nil) (fun _ _ _ _ _ => (pe_ix (r := rIxT K) ix_tup (pv 10) pe_int (fun _ _ => rfl)))) pa_nil)) (pa_cons (pe_callB (cr_sum rfl) (by rfl) T.m_sum (by decide +kernel) (pa_cons (pe_lc (own := [("part", 10)]) (g := gName 10) (tt := tYes) (by rfl) sc__uncapped.nd (pi_list (pv 3)) (blkOk_by (own := [("part", 10)]) (N := ["q", "k", "word", "parts", "top", "far", "size", "other_top", "other_far", "v", "part"]) (sc := defScope s__uncapped) (by decide +kernel)) (fun _ _ _ _ _ => (pg_name (i := 10) sc__uncapped.nd rfl (Or.inl rfl))) (fun _ _ _ _ _ => pts_nil) (fun _ _ _ _ _ => (pe_ix (r := rIxT K) ix_tup (pv 10) pe_int (fun _ _ => rfl)))) pa_nil)) pa_nil)))))) pss_nil)
      (pss_cons (ps_asg (pe_call G__most_and_reach (hr.mono (by omega)) (by rfl) g__most_and_reach kp__most_and_reach b__most_and_reach .nil pass0 (pa_cons (pe_ix ix_tup (pv 0) pe_int (fun _ _ => rfl)) (pa_cons (pv 1) pa_nil))) (pg_tup (by rfl) (pgs_cons (pg_name (i := 4) sc__uncapped.nd rfl (by first | exact Or.inl rfl | exact Or.inr rfl)) (pgs_cons (pg_name (i := 5) sc__uncapped.nd rfl (by first | exact Or.inl rfl | exact Or.inr rfl)) pgs_nil))))
      (pss_cons (ps_if (pt_cmpR op_eq (pv 2) pe_str (nomark _)) (pss_cons (ps_set (i := 6) sc__uncapped.nd rfl (by first | exact Or.inl rfl | exact Or.inr rfl) (pe_callB call_abs (by rfl) T.m_abs (by decide +kernel) (pa_cons (pe_ix ix_tup (pv 0) pe_int (fun _ _ => rfl)) pa_nil)))
      (pss_one (ps_ret (pe_tup (pa_cons (pe_call G__rounded_up (hr.mono (by omega)) (by rfl) g__rounded_up kp__rounded_up b__rounded_up .nil pass0 (pa_cons (pe_op op_mul (pv 4) (pv 6)) (pa_cons (pe_ix ix_tup (pv 0) pe_int (fun _ _ => rfl)) pa_nil))) (pa_cons (pe_call G__rounded_up (hr.mono (by omega)) (by rfl) g__rounded_up kp__rounded_up b__rounded_up .nil pass0 (pa_cons (pe_op op_mul (pv 5) (pv 6)) (pa_cons (pe_ix ix_tup (pv 0) pe_int (fun _ _ => rfl)) pa_nil))) pa_nil)))))) pss_nil)
      (pss_cons (ps_if (pt_cmpR op_eq (pv 2) pe_str (nomark _)) (pss_cons (ps_asg (pe_call G__most_and_reach (hr.mono (by omega)) (by rfl) g__most_and_reach kp__most_and_reach b__most_and_reach .nil pass0 (pa_cons (pe_ix ix_tup (pv 0) pe_int (fun _ _ => rfl)) (pa_cons (pv 1) pa_nil))) (pg_tup (by rfl) (pgs_cons (pg_name (i := 7) sc__uncapped.nd rfl (by first | exact Or.inl rfl | exact Or.inr rfl)) (pgs_cons (pg_name (i := 8) sc__uncapped.nd rfl (by first | exact Or.inl rfl | exact Or.inr rfl)) pgs_nil))))
      (pss_one (ps_ret (pe_tup (pa_cons (pe_call G__rounded_up (hr.mono (by omega)) (by rfl) g__rounded_up kp__rounded_up b__rounded_up .nil pass0 (pa_cons (pe_op op_mulW (pv 4) (pv 7)) (pa_cons (pe_ix ix_tup (pv 0) pe_int (fun _ _ => rfl)) pa_nil))) (pa_cons (pe_call G__rounded_up (hr.mono (by omega)) (by rfl) g__rounded_up kp__rounded_up b__rounded_up .nil pass0 (pa_cons (pe_op op_add (pe_op op_mulW (pv 4) (pv 8)) (pe_op op_mulW (pv 7) (pv 5))) (pa_cons (pe_ix ix_tup (pv 0) pe_int (fun _ _ => rfl)) pa_nil))) pa_nil)))))) pss_nil)
      (pss_one (ps_ret (pe_tup (pa_cons (pv 4) (pa_cons (pv 5) pa_nil)))))))))))), ?_⟩
    refine Rd.start (σ' := [some v, some (.int k), none, none, none, none, none, none, none, none, none]) rfl ?_
    try dsimp only [cxOf, Cx.nox, Cx.wish]
    have fresh : ∀ {H1 : Hp} {p : Addr}, Same H H1 → H1 p = none → H p = none := fun s n => s.free n
    cases h with
    | @qnum _ p i h l =>
      walk_at "go"
      refine Rd.new (by simp) fun p2 np2 => ?_
      exact q _ p2 _ (Same.put np2) np2 upd_same (okU_of (top := ab i) rfl rfl)
    | @qwave _ p b g h l =>
      walk_at "go"
      refine far_go l (by omega) h0 fun H1 s1 => ?_
      walk_at "go"
      refine wfar_go ?_
      walk_at "go"
      refine Rd.new (by simp) fun p2 np2 => ?_
      exact q _ p2 _ (s1.trans (Same.put np2)) (s1.free np2) upd_same (okU_of (top := 1000000) rfl rfl)
    | @qsum _ p xs gs h e l0 l1 l =>
      walk_at "go"
      refine Rd.slT1 (SqT.of h) fun p2 n2 => ?_
      walk_at "go"
      have sp : Same H (upd H p2 (.tup xs)) := Same.put n2
      refine Rd.lctGo (σ0 := [some (.ref p), some (.int k), some (.str "sum"), none, none, none, none, none, none, none, none]) rfl (SqT.of upd_same)
        (fun D i H' => ∃ ps : List Addr, upd H p2 (.tup xs) D = none ∧ H' D = some (.lst (ps.map V.ref)) ∧ ps.length = i ∧ (∀ (j : Nat) a g, ps[j]? = some a → gs[j]? = some g → H' a = some (.tup [.int g.most, .int (g.far k)])) ∧ Same (upd H p2 (.tup xs)) H')
        (fun D nD => ⟨[], nD, upd_same, rfl, fun j a g hx => by simp at hx, Same.put nD⟩) (fun D i H' _ h => by obtain ⟨ps, _, _, _, _, sm⟩ := h; exact sm.seqT (SqT.of upd_same)) (fun D i x H' hx h => ?_) (fun D H' nD h => ?_)
      · obtain ⟨ps, nD, hD, lp, hP, sm⟩ := h
        walk_at "go"
        have hi : i < gs.length := by rw [← e]; exact (List.getElem?_eq_some_iff.mp hx).1
        refine pair_go ((l i x gs[i] hx (List.getElem?_eq_getElem hi)).sub (TupSub.same (sp.trans sm))) (by omega) h0 fun H1 a y s1 na ha ey => ?_
        have hD1 := s1 _ _ hD
        refine Rd.lcn hD1 (by rw [List.length_map]; omega) ⟨ps ++ [a], nD, by rw [upd_same, List.map_append]; rfl, by rw [List.length_append, lp]; rfl, fun j b g hb hg => ?_, Same.mut (sm.trans s1) nD⟩
        have aD : ∀ {b : Addr} {u : List V}, H1 b = some (.tup u) → b ≠ D := fun z => ne_of z hD1 (by intro z2; cases z2)
        by_cases hj : j < i
        · rw [List.getElem?_append_left (by omega)] at hb
          have z := s1 _ _ (hP j b g hb hg)
          exact keepN (aD z) z
        · have ej : j = i := by
            have := (List.getElem?_eq_some_iff.mp hb).1
            rw [List.length_append, List.length_singleton] at this
            omega
          subst ej
          rw [List.getElem?_append_right (by omega), lp] at hb
          simp at hb
          subst hb
          rw [List.getElem?_eq_getElem hi] at hg
          cases hg
          cases ey
          exact keepN (aD ha) ha
      · obtain ⟨ps, nD2, hD, lp, hP, sm⟩ := h
        walk_at "go"
        have hl2 : ps.length = gs.length := by omega
        have each : ∀ (i : Nat) (x : V), (ps.map V.ref)[i]? = some x → ∃ a g, x = .ref a ∧ gs[i]? = some g ∧ ps[i]? = some a ∧ H' a = some (.tup [.int g.most, .int (g.far k)]) := by
          intro i x hx
          rw [List.getElem?_map] at hx
          cases z : ps[i]? with
          | none => rw [z] at hx; cases hx
          | some a =>
            rw [z] at hx
            cases hx
            have hi : i < gs.length := by rw [← hl2]; exact (List.getElem?_eq_some_iff.mp z).1
            exact ⟨a, gs[i], rfl, List.getElem?_eq_getElem hi, rfl, hP i a gs[i] z (List.getElem?_eq_getElem hi)⟩
        refine Rd.lclMap (ys := (gs.map fun g => g.most).map V.int) (σ0 := [some (.ref p), some (.int k), some (.str "sum"), some (.ref D), none, none, none, none, none, none, none]) rfl (SqL.of hD) (by simp [hl2]) (by simp; omega) (fun i x y H2 N hx hy sm2 hN => ?_) (fun D2 H2 nD3 hD2 sm2 => ?_)
        · obtain ⟨a, g, rfl, hg, _, ha⟩ := each i x hx
          rw [List.map_map, List.getElem?_map, hg] at hy
          cases hy
          have ha2 := sm2 _ _ ha
          walk_at "go"
          exact hN _ (Same.refl _)
        walk_at "go"
        refine Rd.sum1 (SqL.of hD2) ?_
        walk_at "go"
        have hDD := sm2 _ _ hD
        refine Rd.lclMap (ys := (gs.map fun g => g.far k).map V.int) (σ0 := [some (.ref p), some (.int k), some (.str "sum"), some (.ref D), none, none, none, none, none, none, none]) rfl (SqL.of hDD) (by simp [hl2]) (by simp; omega) (fun i x y H3 N hx hy sm3 hN => ?_) (fun D3 H3 nD4 hD3 sm3 => ?_)
        · obtain ⟨a, g, rfl, hg, _, ha⟩ := each i x hx
          rw [List.map_map, List.getElem?_map, hg] at hy
          cases hy
          have ha2 := sm3 _ _ (sm2 _ _ ha)
          walk_at "go"
          exact hN _ (Same.refl _)
        walk_at "go"
        refine Rd.sum1 (SqL.of hD3) ?_
        walk_at "go"
        refine Rd.new (by simp) fun p5 np5 => ?_
        have S5 := ((sp.trans sm).trans sm2).trans sm3
        exact q _ p5 _ (S5.trans (Same.put np5)) (S5.free np5) upd_same (okU_of (top := (gs.map fun v => v.most).sum) rfl rfl)
    | @qshare _ p b g i d h l li ld =>
      obtain ⟨li1, li2⟩ := li
      obtain ⟨ld1, ld2⟩ := ld
      have gg := l.good
      have ai := ab_nn i
      have ai2 : (if i < 0 then -i else i) ≤ 1000000000000 := by split <;> omega
      have ai1 : 0 ≤ (if i < 0 then -i else i) := by split <;> omega
      walk_at "go"
      refine pair_go l (by omega) h0 fun H1 a y s1 na ha ey => ?_
      cases ey
      have h1 := s1 _ _ h
      walk_at "go"
      refine int2_go ⟨ld1, ld2⟩ ?_
      walk_at "go"
      refine int2_go ⟨ld1, ld2⟩ ?_
      walk_at "go"
      refine Rd.new (by simp) fun p2 np2 => ?_
      exact q _ p2 _ (s1.trans (Same.put np2)) (s1.free np2) upd_same (okU_of (top := rup (g.most * ab i) d) rfl rfl)
    | @qprod _ p b c g f d h l l2 ld =>
      obtain ⟨ld1, ld2⟩ := ld
      have gg := l.good
      have gf := l2.good
      have gm := gg.mle rfl
      have fm := gf.mle rfl
      have g0 := gg.mnn
      have f0 := gf.mnn
      have gfar := gg.fle rfl k h0
      have ffar := gf.fle rfl k h0
      have gfn := gg.fnn k h0
      have ffn := gf.fnn k h0
      have tb := two_bits n
      have up : 2 * (2 : Int) ^ bits n ≤ 2 ^ bits (n + 1) := by
        have := bits_le (n := n) (c := 2) (z := 2 ^ bits n * 2) (by decide) (by decide) (by omega) (by omega)
        omega
      have W1 : CMulW g.most f.most := mulW_of (n := n + 1) (by omega) (by omega) (by omega) (by omega) (by omega)
      have W2 : CMulW g.most (f.far k) := mulW_of (n := n + 1) (by omega) (by omega) (by omega) (by omega) (by omega)
      have W3 : CMulW f.most (g.far k) := mulW_of (n := n + 1) (by omega) (by omega) (by omega) (by omega) (by omega)
      walk_at "go"
      refine pair_go l (by omega) h0 fun H1 a y s1 na ha ey => ?_
      cases ey
      have h1 := s1 _ _ h
      walk_at "go"
      refine pair_go (l2.sub (TupSub.same s1)) (by omega) h0 fun H2 a2 y2 s2 na2 ha2 ey2 => ?_
      cases ey2
      have h2 := s2 _ _ h1
      walk_at "go"
      refine int2_go ⟨ld1, ld2⟩ ?_
      walk_at "go"
      refine int2_go ⟨ld1, ld2⟩ ?_
      walk_at "go"
      refine Rd.new (by simp) fun p2 np2 => ?_
      exact q _ p2 _ ((s1.trans s2).trans (Same.put np2)) ((s1.trans s2).free np2) upd_same (okU_of (top := rup (g.most * f.most) d) rfl rfl)
    | @qlater _ p b g i h l li =>
      have gg := l.good
      have c1 := gg.fle rfl k h0
      walk_at "go"
      refine pair_go l (by omega) h0 fun H1 a y s1 na ha ey => ?_
      cases ey
      walk_at "go"
      refine Rd.new (by simp) fun p2 np2 => ?_
      refine q _ p2 _ (s1.trans (Same.put np2)) (s1.free np2) upd_same ?_
      show cap g.most (g.far k) = g.far k
      unfold cap
      rw [if_neg (by omega)]
set_option maxHeartbeats 16000000 in
theorem ok_ang (T : Txt K mg) (n : Nat) (R : ∃ (f : Addr) (fd : FuncData), FnOk P w K mg base CX0 (3 * n + 4) f fd ["q", "k"] (spFar n true) ∧ mg "reach" = some (.ref f) ∧ PySem.W.keepIn K (.ref f) = true ∧ L2.Binds K fd ["q", "k"] [])
    (A : ∃ (f : Addr) (fd : FuncData), FnOk P w K mg base CX0 (3 * n + 3) f fd ["a", "k"] (spFar n false) ∧ mg "angle_reach" = some (.ref f) ∧ PySem.W.keepIn K (.ref f) = true ∧ L2.Binds K fd ["a", "k"] []) :
    ∃ (f : Addr) (fd : FuncData), FnOk P w K mg base CX0 (3 * n + 5) f fd ["a", "k"] (spFar (n + 1) false) ∧ mg "angle_reach" = some (.ref f) ∧ PySem.W.keepIn K (.ref f) = true ∧ L2.Binds K fd ["a", "k"] [] := by
  obtain ⟨f, fd, F, g, bi⟩ := T.d_angle_reach
  obtain ⟨f_reach, fd_reach, G_reach, g_reach, kp_reach, b_reach⟩ := R
  obtain ⟨f_angle_reach, fd_angle_reach, G_angle_reach, g_angle_reach, kp_angle_reach, b_angle_reach⟩ := A
  obtain ⟨f__rounded_up, fd__rounded_up, G__rounded_up, g__rounded_up, kp__rounded_up, b__rounded_up⟩ := ok_rup (P := P) (w := w) (base := base) T
  refine ⟨f, fd, ?_, g, F.kp, bi⟩
  refine F.ok sc_angle_reach (fun vs H Q E h => ?_) (fun cdv A outer s H vs Q E hr h => ?_)
  · obtain ⟨v, k, D, rfl, _⟩ := h; rfl
  · obtain ⟨v, k, D, rfl, h, hn, h0, q⟩ := h
    refine ⟨_, (pss_cons (ps_if (pt_cmpR op_eq (pe_ix ix_tup (pv 0) pe_int (fun _ _ => rfl)) pe_str (nomark _)) (pss_one (ps_ret (pe_call G__rounded_up (hr.mono (by omega)) (by rfl) g__rounded_up kp__rounded_up b__rounded_up .nil pass0 (pa_cons (pe_op op_mul (pe_callB call_abs (by rfl) T.m_abs (by decide +kernel) (pa_cons (pe_ix ix_tup (pv 0) pe_int (fun _ _ => rfl)) pa_nil)) (pv 1)) (pa_cons (pe_ix ix_tup (pv 0) pe_int (fun _ _ => rfl)) pa_nil))))) pss_nil)
      (pss_cons (ps_if (pt_cmpR op_eq (pe_ix ix_tup (pv 0) pe_int (fun _ _ => rfl)) pe_str (nomark _)) (pss_one (ps_ret (pe_op op_add (pe_call G_angle_reach (hr.mono (by omega)) (by rfl) g_angle_reach kp_angle_reach b_angle_reach .nil pass0 (pa_cons (pe_ix ix_tup (pv 0) pe_int (fun _ _ => rfl)) (pa_cons (pv 1) pa_nil))) (pe_call G_reach (hr.mono (by omega)) (by rfl) g_reach kp_reach b_reach .nil pass0 (pa_cons (pe_ix ix_tup (pv 0) pe_int (fun _ _ => rfl)) (pa_cons (pv 1) pa_nil)))))) pss_nil)
      (pss_one (ps_ret (pe_op op_add (pe_call G_angle_reach (hr.mono (by omega)) (by rfl) g_angle_reach kp_angle_reach b_angle_reach .nil pass0 (pa_cons (pe_ix ix_tup (pv 0) pe_int (fun _ _ => rfl)) (pa_cons (pv 1) pa_nil))) (pe_call G_angle_reach (hr.mono (by omega)) (by rfl) g_angle_reach kp_angle_reach b_angle_reach .nil pass0 (pa_cons (pe_ix ix_tup (pv 0) pe_int (fun _ _ => rfl)) (pa_cons (pv 1) pa_nil)))))))), ?_⟩
    refine Rd.start (σ' := [some v, some (.int k)]) rfl ?_
    try dsimp only [cxOf, Cx.nox, Cx.wish]
    cases h with
    | @aturn _ p s i d h ls li ld =>
      obtain ⟨li1, li2⟩ := li
      obtain ⟨ld1, ld2⟩ := ld
      have ai2 : (if i < 0 then -i else i) ≤ 1000000000000 := by split <;> omega
      have ai1 : 0 ≤ (if i < 0 then -i else i) := by split <;> omega
      walk_at "go"
      refine int2_go ⟨ld1, ld2⟩ ?_
      exact q _ (Same.refl _)
    | @amoved _ p b c g f h l l2 =>
      walk_at "go"
      refine far_go l (by omega) h0 fun H1 s1 => ?_
      have h1 := s1 _ _ h
      walk_at "go"
      refine far_go (l2.sub (TupSub.same s1)) (by omega) h0 fun H2 s2 => ?_
      walk_at "go"
      exact q _ (s1.trans s2)
    | @aminus _ p b c g f h l l2 =>
      walk_at "go"
      refine far_go l (by omega) h0 fun H1 s1 => ?_
      have h1 := s1 _ _ h
      walk_at "go"
      refine far_go (l2.sub (TupSub.same s1)) (by omega) h0 fun H2 s2 => ?_
      walk_at "go"
      exact q _ (s1.trans s2)
theorem ok_reaches (T : Txt K mg) : ∀ n : Nat, (∃ (f : Addr) (fd : FuncData), FnOk P w K mg base CX0 (3 * n + 3) f fd ["q", "k"] (spPair n okM) ∧ mg "_most_and_reach" = some (.ref f) ∧ PySem.W.keepIn K (.ref f) = true ∧ L2.Binds K fd ["q", "k"] []) ∧
    (∃ (f : Addr) (fd : FuncData), FnOk P w K mg base CX0 (3 * n + 3) f fd ["a", "k"] (spFar n false) ∧ mg "angle_reach" = some (.ref f) ∧ PySem.W.keepIn K (.ref f) = true ∧ L2.Binds K fd ["a", "k"] []) := by
  intro n
  induction n with
  | zero =>
    obtain ⟨fq, fdq, Fq, gq, bq⟩ := T.d__most_and_reach
    obtain ⟨fa, fda, Fa, ga, ba⟩ := T.d_angle_reach
    exact ⟨⟨fq, fdq, never.imp (fun vs H Q E h => by obtain ⟨v, t, D, _, h, _⟩ := h; cases h), gq, Fq.kp, bq⟩, ⟨fa, fda, never.imp (fun vs H Q E h => by obtain ⟨v, t, D, _, h, _⟩ := h; cases h), ga, Fa.kp, ba⟩⟩
  | succ n ih =>
    obtain ⟨M, A⟩ := ih
    have U := ok_unc T n M A
    have M1 := ok_pairM T (n + 1) _ U
    have R := ok_reach T n _ M
    obtain ⟨f1, fd1, G1, r1⟩ := ok_ang T n R A
    obtain ⟨f2, fd2, G2, r2⟩ := M1
    exact ⟨⟨f2, fd2, G2.mono (by omega), r2⟩, ⟨f1, fd1, G1.mono (by omega), r1⟩⟩
end

section
open Rd
variable {P : Program} {w : World} {K : PySem.W.Frag} {mg : Str → Option Value} {base : Heap}
set_option maxHeartbeats 4000000 in
theorem ok_lup (T : Txt K mg) : ∃ (f : Addr) (fd : FuncData), FnOk P w K mg base CX0 1 f fd ["number", "divisor"] (spInt2 rupPre rup) ∧ mg "_law_up" = some (.ref f) ∧ PySem.W.keepIn K (.ref f) = true ∧ L2.Binds K fd ["number", "divisor"] [] := by
  obtain ⟨f, fd, F, g, bi⟩ := T.d__law_up
  refine ⟨f, fd, ?_, g, F.kp, bi⟩
  refine F.ok sc__law_up (fun vs H Q E h => ?_) (fun cdv A outer s H vs Q E hr h => ?_)
  · obtain ⟨a, b, rfl, _⟩ := h; rfl
  · obtain ⟨a, b, rfl, ⟨h0, h1⟩, q⟩ := h
    refine ⟨_, (pss_one (ps_ret (pe_op op_fdivW (pe_op op_sub (pe_op op_add (pv 0) (pv 1)) pe_int) (pv 1)))), ?_⟩
    refine Rd.start (σ' := [some (.int a), some (.int b)]) rfl ?_
    try dsimp only [cxOf, Cx.nox, Cx.wish]
    walk_at "go"
    rw [rup_up h0]
    exact q
set_option maxHeartbeats 16000000 in
theorem ok_lmost (T : Txt K mg) : ∀ n : Nat, ∃ (f : Addr) (fd : FuncData), FnOk P w K mg base CX0 (n + 2) f fd ["q"] (spMost n) ∧ mg "_law_most" = some (.ref f) ∧ PySem.W.keepIn K (.ref f) = true ∧ L2.Binds K fd ["q"] [] := by
  obtain ⟨f, fd, F, gl, bi⟩ := T.d__law_most
  obtain ⟨f__law_up, fd__law_up, G__law_up, g__law_up, kp__law_up, b__law_up⟩ := ok_lup (P := P) (w := w) (base := base) T
  intro n
  induction n with
  | zero => exact ⟨f, fd, never.imp (fun vs H Q E h => by obtain ⟨v, D, _, h, _⟩ := h; cases h), gl, F.kp, bi⟩
  | succ n ih =>
    obtain ⟨f__law_most, fd__law_most, G__law_most, g__law_most, kp__law_most, b__law_most⟩ := ih
    refine ⟨f, fd, ?_, gl, F.kp, bi⟩
    refine F.ok sc__law_most (fun vs H Q E h => ?_) (fun cdv A outer s H vs Q E hr h => ?_)
    · obtain ⟨v, D, rfl, _⟩ := h; rfl
    · obtain ⟨v, D, rfl, h, hn, q⟩ := h
      refine ⟨_, (pss_cons (ps_if (pt_cmpR op_eq (pe_ix ix_tup (pv 0) pe_int (fun _ _ => rfl)) pe_str (nomark _)) (pss_one (ps_ret (pe_callB call_abs (by rfl) T.m_abs (by decide +kernel) (pa_cons (pe_ix ix_tup (pv 0) pe_int (fun _ _ => rfl)) pa_nil)))) pss_nil)
      (pss_cons (ps_if (pt_cmpR op_eq (pe_ix ix_tup (pv 0) pe_int (fun _ _ => rfl)) pe_str (nomark _)) (pss_one (ps_ret pe_int)) pss_nil)
      (pss_cons (ps_if (pt_cmpR op_eq (pe_ix ix_tup (pv 0) pe_int (fun _ _ => rfl)) pe_str (nomark _)) (pss_one (ps_ret (pe_callB (cr_sum rfl) (by rfl) T.m_sum (by decide +kernel) (pa_cons (pe_lc (own := [("part", 1)]) (g := gName 1) (tt := tYes) (by rfl) sc__law_most.nd (pi_tup (pe_slice sl_tup (pv 0) (po_some pe_int) po_none)) (blkOk_by (own := [("part", 1)]) (N := ["q", "part"]) (sc := defScope s__law_most) (by decide +kernel)) (fun _ _ _ _ _ => (pg_name (i := 1) sc__law_most.nd rfl (Or.inl rfl))) (fun _ _ _ _ _ => pts_nil) (fun _ _ _ _ _ => (pe_call G__law_most (hr.mono (by omega)) (by rfl) g__law_most kp__law_most b__law_most .nil pass0 (pa_cons (pv 1) pa_nil)))) pa_nil)))) pss_nil)
      (pss_cons (ps_if (pt_cmpR op_eq (pe_ix ix_tup (pv 0) pe_int (fun _ _ => rfl)) pe_str (nomark _)) (pss_one (ps_ret (pe_call G__law_up (hr.mono (by omega)) (by rfl) g__law_up kp__law_up b__law_up .nil pass0 (pa_cons (pe_op op_mul (pe_call G__law_most (hr.mono (by omega)) (by rfl) g__law_most kp__law_most b__law_most .nil pass0 (pa_cons (pe_ix ix_tup (pv 0) pe_int (fun _ _ => rfl)) pa_nil)) (pe_callB call_abs (by rfl) T.m_abs (by decide +kernel) (pa_cons (pe_ix ix_tup (pv 0) pe_int (fun _ _ => rfl)) pa_nil))) (pa_cons (pe_ix ix_tup (pv 0) pe_int (fun _ _ => rfl)) pa_nil))))) pss_nil)
      (pss_cons (ps_if (pt_cmpR op_eq (pe_ix ix_tup (pv 0) pe_int (fun _ _ => rfl)) pe_str (nomark _)) (pss_one (ps_ret (pe_call G__law_up (hr.mono (by omega)) (by rfl) g__law_up kp__law_up b__law_up .nil pass0 (pa_cons (pe_op op_mulW (pe_call G__law_most (hr.mono (by omega)) (by rfl) g__law_most kp__law_most b__law_most .nil pass0 (pa_cons (pe_ix ix_tup (pv 0) pe_int (fun _ _ => rfl)) pa_nil)) (pe_call G__law_most (hr.mono (by omega)) (by rfl) g__law_most kp__law_most b__law_most .nil pass0 (pa_cons (pe_ix ix_tup (pv 0) pe_int (fun _ _ => rfl)) pa_nil))) (pa_cons (pe_ix ix_tup (pv 0) pe_int (fun _ _ => rfl)) pa_nil))))) pss_nil)
      (pss_one (ps_ret (pe_call G__law_most (hr.mono (by omega)) (by rfl) g__law_most kp__law_most b__law_most .nil pass0 (pa_cons (pe_ix ix_tup (pv 0) pe_int (fun _ _ => rfl)) pa_nil))))))))), ?_⟩
      refine Rd.start (σ' := [some v, none]) rfl ?_
      try dsimp only [cxOf, Cx.nox, Cx.wish]
      cases h with
      | @qnum _ p i h l =>
        walk_at "go"
        exact q _ (Same.refl _)
      | @qwave _ p b g h l =>
        walk_at "go"
        exact q _ (Same.refl _)
      | @qsum _ p xs gs h e l0 l1 l =>
        walk_at "go"
        refine Rd.slT1 (SqT.of h) fun p2 n2 => ?_
        walk_at "go"
        have sp : Same H (upd H p2 (.tup xs)) := Same.put n2
        refine Rd.lctMap (ys := (gs.map fun g => g.most).map V.int) (σ0 := [some (.ref p), none]) rfl (SqT.of upd_same) (by simp [e]) (by simp; omega) (fun i x y H' N hx hy sm hN => ?_) (fun D H' nD hD sm => ?_)
        · rw [List.map_map, List.getElem?_map] at hy
          obtain ⟨g, hg, rfl⟩ : ∃ g, gs[i]? = some g ∧ V.int g.most = y := by
            cases hz : gs[i]? with
            | none => rw [hz] at hy; cases hy
            | some g => rw [hz] at hy; exact ⟨g, rfl, Option.some.inj hy⟩
          walk_at "go"
          refine most_go ((l i x g hx hg).sub (TupSub.same (sp.trans sm))) (by omega) fun H1 s1 => ?_
          exact hN _ s1
        · walk_at "go"
          refine Rd.sum1 (SqL.of hD) ?_
          walk_at "go"
          exact q _ (sp.trans sm)
      | @qshare _ p b g i d h l li ld =>
        obtain ⟨li1, li2⟩ := li
        obtain ⟨ld1, ld2⟩ := ld
        have ai2 : (if i < 0 then -i else i) ≤ 1000000000000 := by split <;> omega
        have ai1 : 0 ≤ (if i < 0 then -i else i) := by split <;> omega
        walk_at "go"
        refine most_go l (by omega) fun H1 s1 => ?_
        have h1 := s1 _ _ h
        walk_at "go"
        refine int2_go ⟨ld1, ld2⟩ ?_
        exact q _ s1
      | @qprod _ p b c g f d h l l2 ld =>
        obtain ⟨ld1, ld2⟩ := ld
        have gm := l.good.mle rfl
        have fm := l2.good.mle rfl
        have g0 := l.good.mnn
        have f0 := l2.good.mnn
        have W1 : CMulW g.most f.most := mulW_of (n := n) (by omega) (by omega) (by omega) (by omega) (by omega)
        walk_at "go"
        refine most_go l (by omega) fun H1 s1 => ?_
        have h1 := s1 _ _ h
        walk_at "go"
        refine most_go (l2.sub (TupSub.same s1)) (by omega) fun H2 s2 => ?_
        have h2 := s2 _ _ h1
        walk_at "go"
        refine int2_go ⟨ld1, ld2⟩ ?_
        exact q _ (s1.trans s2)
      | @qlater _ p b g i h l li =>
        walk_at "go"
        refine most_go l (by omega) fun H1 s1 => ?_
        exact q _ s1
set_option maxHeartbeats 16000000 in
theorem ok_lreach (T : Txt K mg) : ∀ n : Nat, (∃ (f : Addr) (fd : FuncData), FnOk P w K mg base CX0 (n + 4) f fd ["q", "k"] (spFar n true) ∧ mg "_law_reach" = some (.ref f) ∧ PySem.W.keepIn K (.ref f) = true ∧ L2.Binds K fd ["q", "k"] []) ∧
    (∃ (f : Addr) (fd : FuncData), FnOk P w K mg base CX0 (n + 4) f fd ["a", "k"] (spFar n false) ∧ mg "_law_angle_reach" = some (.ref f) ∧ PySem.W.keepIn K (.ref f) = true ∧ L2.Binds K fd ["a", "k"] []) := by
  obtain ⟨fq, fdq, Fq, gq, bq⟩ := T.d__law_reach
  obtain ⟨fa, fda, Fa, ga, ba⟩ := T.d__law_angle_reach
  obtain ⟨f__law_up, fd__law_up, G__law_up, g__law_up, kp__law_up, b__law_up⟩ := ok_lup (P := P) (w := w) (base := base) T
  intro n
  induction n with
  | zero => exact ⟨⟨fq, fdq, never.imp (fun vs H Q E h => by obtain ⟨v, t, D, _, h, _⟩ := h; cases h), gq, Fq.kp, bq⟩, ⟨fa, fda, never.imp (fun vs H Q E h => by obtain ⟨v, t, D, _, h, _⟩ := h; cases h), ga, Fa.kp, ba⟩⟩
  | succ n ih =>
    obtain ⟨⟨f__law_reach, fd__law_reach, G__law_reach, g__law_reach, kp__law_reach, b__law_reach⟩, ⟨f__law_angle_reach, fd__law_angle_reach, G__law_angle_reach, g__law_angle_reach, kp__law_angle_reach, b__law_angle_reach⟩⟩ := ih
    obtain ⟨f__law_most, fd__law_most, G__law_most, g__law_most, kp__law_most, b__law_most⟩ := ok_lmost (P := P) (w := w) (base := base) T (n + 1)
    refine ⟨⟨fq, fdq, ?_, gq, Fq.kp, bq⟩, ⟨fa, fda, ?_, ga, Fa.kp, ba⟩⟩
    · refine Fq.ok sc__law_reach (fun vs H Q E h => ?_) (fun cdv A outer s H vs Q E hr h => ?_)
      · obtain ⟨v, t, D, rfl, _⟩ := h; rfl
      · obtain ⟨v, k, D, rfl, h, hn, h0, q⟩ := h
        refine ⟨_, (pss_cons (ps_set (i := 2) sc__law_reach.nd rfl (by first | exact Or.inl rfl | exact Or.inr rfl) pe_int)
      (pss_cons (ps_if (pt_cmpR op_eq (pe_ix ix_tup (pv 0) pe_int (fun _ _ => rfl)) pe_str (nomark _)) (pss_cons (ps_set (i := 3) sc__law_reach.nd rfl (by first | exact Or.inl rfl | exact Or.inr rfl) (pe_call G__law_angle_reach (hr.mono (by omega)) (by rfl) g__law_angle_reach kp__law_angle_reach b__law_angle_reach .nil pass0 (pa_cons (pe_ix ix_tup (pv 0) pe_int (fun _ _ => rfl)) (pa_cons (pv 1) pa_nil))))
      (pss_one (ps_set (i := 2) sc__law_reach.nd rfl (by first | exact Or.inl rfl | exact Or.inr rfl) (pe_ifExp (pt_cmpR op_gt (pv 3) pe_int (nomark _)) (pe_op op_add (pe_op op_fdivW (pe_op op_mul pe_int (pv 3)) pe_int) pe_int) pe_int)))) pss_nil)
      (pss_cons (ps_if (pt_cmpR op_eq (pe_ix ix_tup (pv 0) pe_int (fun _ _ => rfl)) pe_str (nomark _)) (pss_one (ps_set (i := 2) sc__law_reach.nd rfl (by first | exact Or.inl rfl | exact Or.inr rfl) (pe_callB (cr_sum rfl) (by rfl) T.m_sum (by decide +kernel) (pa_cons (pe_lc (own := [("part", 5)]) (g := gName 5) (tt := tYes) (by rfl) sc__law_reach.nd (pi_tup (pe_slice sl_tup (pv 0) (po_some pe_int) po_none)) (blkOk_by (own := [("part", 5)]) (N := ["q", "k", "found", "distance", "change", "part"]) (sc := defScope s__law_reach) (by decide +kernel)) (fun _ _ _ _ _ => (pg_name (i := 5) sc__law_reach.nd rfl (Or.inl rfl))) (fun _ _ _ _ _ => pts_nil) (fun _ _ _ _ _ => (pe_call G__law_reach (hr.mono (by omega)) (by rfl) g__law_reach kp__law_reach b__law_reach .nil pass0 (pa_cons (pv 5) (pa_cons (pv 1) pa_nil))))) pa_nil)))) pss_nil)
      (pss_cons (ps_if (pt_cmpR op_eq (pe_ix ix_tup (pv 0) pe_int (fun _ _ => rfl)) pe_str (nomark _)) (pss_one (ps_set (i := 2) sc__law_reach.nd rfl (by first | exact Or.inl rfl | exact Or.inr rfl) (pe_call G__law_up (hr.mono (by omega)) (by rfl) g__law_up kp__law_up b__law_up .nil pass0 (pa_cons (pe_op op_mul (pe_call G__law_reach (hr.mono (by omega)) (by rfl) g__law_reach kp__law_reach b__law_reach .nil pass0 (pa_cons (pe_ix ix_tup (pv 0) pe_int (fun _ _ => rfl)) (pa_cons (pv 1) pa_nil))) (pe_callB call_abs (by rfl) T.m_abs (by decide +kernel) (pa_cons (pe_ix ix_tup (pv 0) pe_int (fun _ _ => rfl)) pa_nil))) (pa_cons (pe_ix ix_tup (pv 0) pe_int (fun _ _ => rfl)) pa_nil))))) pss_nil)
      (pss_cons (ps_if (pt_cmpR op_eq (pe_ix ix_tup (pv 0) pe_int (fun _ _ => rfl)) pe_str (nomark _)) (pss_cons (ps_set (i := 4) sc__law_reach.nd rfl (by first | exact Or.inl rfl | exact Or.inr rfl) (pe_op op_add (pe_op op_mulW (pe_call G__law_most (hr.mono (by omega)) (by rfl) g__law_most kp__law_most b__law_most .nil pass0 (pa_cons (pe_ix ix_tup (pv 0) pe_int (fun _ _ => rfl)) pa_nil)) (pe_call G__law_reach (hr.mono (by omega)) (by rfl) g__law_reach kp__law_reach b__law_reach .nil pass0 (pa_cons (pe_ix ix_tup (pv 0) pe_int (fun _ _ => rfl)) (pa_cons (pv 1) pa_nil)))) (pe_op op_mulW (pe_call G__law_most (hr.mono (by omega)) (by rfl) g__law_most kp__law_most b__law_most .nil pass0 (pa_cons (pe_ix ix_tup (pv 0) pe_int (fun _ _ => rfl)) pa_nil)) (pe_call G__law_reach (hr.mono (by omega)) (by rfl) g__law_reach kp__law_reach b__law_reach .nil pass0 (pa_cons (pe_ix ix_tup (pv 0) pe_int (fun _ _ => rfl)) (pa_cons (pv 1) pa_nil))))))
      (pss_one (ps_set (i := 2) sc__law_reach.nd rfl (by first | exact Or.inl rfl | exact Or.inr rfl) (pe_call G__law_up (hr.mono (by omega)) (by rfl) g__law_up kp__law_up b__law_up .nil pass0 (pa_cons (pv 4) (pa_cons (pe_ix ix_tup (pv 0) pe_int (fun _ _ => rfl)) pa_nil)))))) pss_nil)
      (pss_cons (ps_if (pt_cmpR op_eq (pe_ix ix_tup (pv 0) pe_int (fun _ _ => rfl)) pe_str (nomark _)) (pss_one (ps_set (i := 2) sc__law_reach.nd rfl (by first | exact Or.inl rfl | exact Or.inr rfl) (pe_call G__law_reach (hr.mono (by omega)) (by rfl) g__law_reach kp__law_reach b__law_reach .nil pass0 (pa_cons (pe_ix ix_tup (pv 0) pe_int (fun _ _ => rfl)) (pa_cons (pv 1) pa_nil))))) pss_nil)
      (pss_one (ps_ret (pe_callB (call_min2 rfl) (by rfl) T.m_min (by decide +kernel) (pa_cons (pv 2) (pa_cons (pe_op op_mul pe_int (pe_call G__law_most (hr.mono (by omega)) (by rfl) g__law_most kp__law_most b__law_most .nil pass0 (pa_cons (pv 0) pa_nil))) pa_nil))))))))))), ?_⟩
        refine Rd.start (σ' := [some v, some (.int k), none, none, none, none]) rfl ?_
        try dsimp only [cxOf, Cx.nox, Cx.wish]
        have hh := h
        cases h with
        | @qnum _ p i h l =>
          walk_at "go"
          refine most_go hh (by omega) fun H1 s1 => ?_
          walk_at "go"
          exact q _ s1
        | @qwave _ p b g h l =>
          walk_at "go"
          refine far_go l (by omega) h0 fun H1 s1 => ?_
          have h1 := s1 _ _ h
          have fn := l.good.fnn k h0
          by_cases z : 0 < g.far k
          · walk_at "go"
            refine most_go (hh.sub (TupSub.same s1)) (by omega) fun H2 s2 => ?_
            walk_at "go"
            have e : wfar (g.far k) = 125 * g.far k / 27 + 1 := by unfold wfar; rw [if_neg (by omega)]
            have r := q _ (s1.trans s2)
            show Q (.int (cap 1000000 (125 * g.far k / 27 + 1))) _
            rw [← e]
            exact r
          · walk_at "go"
            refine most_go (hh.sub (TupSub.same s1)) (by omega) fun H2 s2 => ?_
            walk_at "go"
            have e : wfar (g.far k) = 0 := by unfold wfar; rw [if_pos (by omega)]
            have r := q _ (s1.trans s2)
            show Q (.int (cap 1000000 0)) _
            rw [← e]
            exact r
        | @qsum _ p xs gs h e l0 l1 l =>
          walk_at "go"
          refine Rd.slT1 (SqT.of h) fun p2 n2 => ?_
          walk_at "go"
          have sp : Same H (upd H p2 (.tup xs)) := Same.put n2
          refine Rd.lctMap (ys := (gs.map fun g => g.far k).map V.int) (σ0 := [some (.ref p), some (.int k), some (.int 0), none, none, none]) rfl (SqT.of upd_same) (by simp [e]) (by simp; omega) (fun i x y H' N hx hy sm hN => ?_) (fun D H' nD hD sm => ?_)
          · rw [List.map_map, List.getElem?_map] at hy
            obtain ⟨g, hg, rfl⟩ : ∃ g, gs[i]? = some g ∧ V.int (g.far k) = y := by
              cases hz : gs[i]? with
              | none => rw [hz] at hy; cases hy
              | some g => rw [hz] at hy; exact ⟨g, rfl, Option.some.inj hy⟩
            walk_at "go"
            refine far_go ((l i x g hx hg).sub (TupSub.same (sp.trans sm))) (by omega) h0 fun H1 s1 => ?_
            exact hN _ s1
          · have h1 := sm _ _ (sp _ _ h)
            walk_at "go"
            refine Rd.sum1 (SqL.of hD) ?_
            walk_at "go"
            refine most_go (hh.sub (TupSub.same (sp.trans sm))) (by omega) fun H2 s2 => ?_
            walk_at "go"
            exact q _ ((sp.trans sm).trans s2)
        | @qshare _ p b g i d h l li ld =>
          obtain ⟨li1, li2⟩ := li
          obtain ⟨ld1, ld2⟩ := ld
          have ai2 : (if i < 0 then -i else i) ≤ 1000000000000 := by split <;> omega
          have ai1 : 0 ≤ (if i < 0 then -i else i) := by split <;> omega
          walk_at "go"
          refine far_go l (by omega) h0 fun H1 s1 => ?_
          have h1 := s1 _ _ h
          walk_at "go"
          refine int2_go ⟨ld1, ld2⟩ ?_
          walk_at "go"
          refine most_go (hh.sub (TupSub.same s1)) (by omega) fun H2 s2 => ?_
          walk_at "go"
          exact q _ (s1.trans s2)
        | @qprod _ p b c g f d h l l2 ld =>
          obtain ⟨ld1, ld2⟩ := ld
          have gg := l.good
          have gf := l2.good
          have gm := gg.mle rfl
          have fm := gf.mle rfl
          have g0 := gg.mnn
          have f0 := gf.mnn
          have gfar := gg.fle rfl k h0
          have ffar := gf.fle rfl k h0
          have gfn := gg.fnn k h0
          have ffn := gf.fnn k h0
          have tb := two_bits n
          have up : 2 * (2 : Int) ^ bits n ≤ 2 ^ bits (n + 1) := by
            have := bits_le (n := n) (c := 2) (z := 2 ^ bits n * 2) (by decide) (by decide) (by omega) (by omega)
            omega
          have W2 : CMulW g.most (f.far k) := mulW_of (n := n + 1) (by omega) (by omega) (by omega) (by omega) (by omega)
          have W3 : CMulW f.most (g.far k) := mulW_of (n := n + 1) (by omega) (by omega) (by omega) (by omega) (by omega)
          walk_at "go"
          refine most_go l.up (by omega) fun H1 s1 => ?_
          have h1 := s1 _ _ h
          walk_at "go"
          refine far_go (l2.sub (TupSub.same s1)) (by omega) h0 fun H2 s2 => ?_
          have h2 := s2 _ _ h1
          walk_at "go"
          refine most_go (l2.sub (TupSub.same (s1.trans s2))).up (by omega) fun H3 s3 => ?_
          have h3 := s3 _ _ h2
          walk_at "go"
          refine far_go (l.sub (TupSub.same ((s1.trans s2).trans s3))) (by omega) h0 fun H4 s4 => ?_
          have h4 := s4 _ _ h3
          have S4 := ((s1.trans s2).trans s3).trans s4
          walk_at "go"
          refine int2_go ⟨ld1, ld2⟩ ?_
          walk_at "go"
          refine most_go (hh.sub (TupSub.same S4)) (by omega) fun H5 s5 => ?_
          walk_at "go"
          exact q _ (S4.trans s5)
        | @qlater _ p b g i h l li =>
          have c1 := l.good.fle rfl k h0
          walk_at "go"
          refine far_go l (by omega) h0 fun H1 s1 => ?_
          have h1 := s1 _ _ h
          walk_at "go"
          refine most_go (hh.sub (TupSub.same s1)) (by omega) fun H2 s2 => ?_
          walk_at "go"
          have r := q _ (s1.trans s2)
          have e : cap g.most (g.far k) = g.far k := by unfold cap; rw [if_neg (by omega)]
          show Q (.int (cap g.most (g.far k))) _
          rw [e]
          exact r
    · refine Fa.ok sc__law_angle_reach (fun vs H Q E h => ?_) (fun cdv A outer s H vs Q E hr h => ?_)
      · obtain ⟨v, t, D, rfl, _⟩ := h; rfl
      · obtain ⟨v, k, D, rfl, h, hn, h0, q⟩ := h
        refine ⟨_, (pss_cons (ps_if (pt_cmpR op_eq (pe_ix ix_tup (pv 0) pe_int (fun _ _ => rfl)) pe_str (nomark _)) (pss_one (ps_ret (pe_call G__law_up (hr.mono (by omega)) (by rfl) g__law_up kp__law_up b__law_up .nil pass0 (pa_cons (pe_op op_mul (pe_callB call_abs (by rfl) T.m_abs (by decide +kernel) (pa_cons (pe_ix ix_tup (pv 0) pe_int (fun _ _ => rfl)) pa_nil)) (pv 1)) (pa_cons (pe_ix ix_tup (pv 0) pe_int (fun _ _ => rfl)) pa_nil))))) pss_nil)
      (pss_cons (ps_if (pt_cmpR op_eq (pe_ix ix_tup (pv 0) pe_int (fun _ _ => rfl)) pe_str (nomark _)) (pss_one (ps_ret (pe_op op_add (pe_call G__law_angle_reach (hr.mono (by omega)) (by rfl) g__law_angle_reach kp__law_angle_reach b__law_angle_reach .nil pass0 (pa_cons (pe_ix ix_tup (pv 0) pe_int (fun _ _ => rfl)) (pa_cons (pv 1) pa_nil))) (pe_call G__law_reach (hr.mono (by omega)) (by rfl) g__law_reach kp__law_reach b__law_reach .nil pass0 (pa_cons (pe_ix ix_tup (pv 0) pe_int (fun _ _ => rfl)) (pa_cons (pv 1) pa_nil)))))) pss_nil)
      (pss_one (ps_ret (pe_op op_add (pe_call G__law_angle_reach (hr.mono (by omega)) (by rfl) g__law_angle_reach kp__law_angle_reach b__law_angle_reach .nil pass0 (pa_cons (pe_ix ix_tup (pv 0) pe_int (fun _ _ => rfl)) (pa_cons (pv 1) pa_nil))) (pe_call G__law_angle_reach (hr.mono (by omega)) (by rfl) g__law_angle_reach kp__law_angle_reach b__law_angle_reach .nil pass0 (pa_cons (pe_ix ix_tup (pv 0) pe_int (fun _ _ => rfl)) (pa_cons (pv 1) pa_nil)))))))), ?_⟩
        refine Rd.start (σ' := [some v, some (.int k)]) rfl ?_
        try dsimp only [cxOf, Cx.nox, Cx.wish]
        cases h with
        | @aturn _ p s i d h ls li ld =>
          obtain ⟨li1, li2⟩ := li
          obtain ⟨ld1, ld2⟩ := ld
          have ai2 : (if i < 0 then -i else i) ≤ 1000000000000 := by split <;> omega
          have ai1 : 0 ≤ (if i < 0 then -i else i) := by split <;> omega
          walk_at "go"
          refine int2_go ⟨ld1, ld2⟩ ?_
          exact q _ (Same.refl _)
        | @amoved _ p b c g f h l l2 =>
          walk_at "go"
          refine far_go l (by omega) h0 fun H1 s1 => ?_
          have h1 := s1 _ _ h
          walk_at "go"
          refine far_go (l2.sub (TupSub.same s1)) (by omega) h0 fun H2 s2 => ?_
          walk_at "go"
          exact q _ (s1.trans s2)
        | @aminus _ p b c g f h l l2 =>
          walk_at "go"
          refine far_go l (by omega) h0 fun H1 s1 => ?_
          have h1 := s1 _ _ h
          walk_at "go"
          refine far_go (l2.sub (TupSub.same s1)) (by omega) h0 fun H2 s2 => ?_
          walk_at "go"
          exact q _ (s1.trans s2)
end

section
open Rd
variable {P : Program} {w : World} {K : PySem.W.Frag} {mg : Str → Option Value} {base : Heap}
theorem TL.row {H : Hp} {l : Addr} {ps : List Addr} {rs : List (List V)} {i : Nat} {x : V} (h : Rows H ps rs) (hx : (ps.map V.ref)[i]? = some x) : ∃ p r, x = .ref p ∧ rs[i]? = some r ∧ H p = some (.tup r) := by
  rw [List.getElem?_map] at hx
  cases z : ps[i]? with
  | none => rw [z] at hx; cases hx
  | some p =>
    rw [z] at hx
    cases hx
    have hi : i < rs.length := by rw [← h.len]; exact (List.getElem?_eq_some_iff.mp z).1
    obtain ⟨p2, e1, e2⟩ := h.get (List.getElem?_eq_getElem hi)
    rw [z] at e1
    cases e1
    exact ⟨p, rs[i], rfl, List.getElem?_eq_getElem hi, e2⟩
theorem TL.app {H : Hp} {l p : Addr} {ps : List Addr} {rs : List (List V)} {r : List V} (hl : H l = some (.lst (ps.map V.ref))) (h : Rows H ps rs) (hp : H p = some (.tup r)) : TL (upd H l (.lst (ps.map V.ref ++ [.ref p]))) l (rs ++ [r]) :=
  ⟨ps ++ [p], by rw [upd_same, List.map_append]; rfl, (h.sub (TupSub.putL hl)).append ⟨TupSub.putL hl _ _ hp, trivial⟩⟩
/-- one row of cells -/
theorem cells_at {cs : List (Int × Int)} {i : Nat} {r : List V} (h : (cs.map cRow)[i]? = some r) : ∃ c, cs[i]? = some c ∧ r = [.int c.1, .int c.2] := by
  rw [List.getElem?_map] at h
  cases z : cs[i]? with
  | none => rw [z] at h; cases h
  | some c => rw [z] at h; exact ⟨c, rfl, (Option.some.inj h).symm⟩
theorem drop_at {α : Type} {cs : List α} {i : Nat} {c : α} (h : cs[i]? = some c) : cs.drop i = c :: cs.drop (i + 1) := by
  obtain ⟨hi, e⟩ := List.getElem?_eq_some_iff.mp h
  rw [List.drop_eq_getElem_cons hi, e]
def spCov : Sp := fun vs H Q _ => ∃ (s e : Int) (l : Addr) (cs : List (Int × Int)), vs = [.int s, .int e, .ref l] ∧ s ≤ e ∧ TL H l (cs.map cRow) ∧ Q (.bl (covB s e cs)) H
theorem cov_go {H : Hp} {s e : Int} {l : Addr} {cs : List (Int × Int)} {Q : VK} {E : XK} (h : s ≤ e) (t : TL H l (cs.map cRow)) (q : Q (.bl (covB s e cs)) H) : CALL spCov [.int s, .int e, .ref l] H Q E := ⟨s, e, l, cs, rfl, h, t, q⟩
set_option maxHeartbeats 8000000 in
theorem ok_cov (T : Txt K mg) : ∃ (f : Addr) (fd : FuncData), FnOk P w K mg base CX0 1 f fd ["start", "end", "cells"] spCov ∧ mg "covers" = some (.ref f) ∧ PySem.W.keepIn K (.ref f) = true ∧ L2.Binds K fd ["start", "end", "cells"] [] := by
  obtain ⟨f, fd, F, g, bi⟩ := T.d__covers
  refine ⟨f, fd, ?_, g, F.kp, bi⟩
  refine F.ok sc__covers (fun vs H Q E h => ?_) (fun cdv A outer s H vs Q E hr h => ?_)
  · obtain ⟨s, e, l, cs, rfl, _⟩ := h; rfl
  · obtain ⟨s, e, l, cs, rfl, hse, ⟨ps, hl, hR⟩, q⟩ := h
    refine ⟨_, (pss_cons (ps_set (i := 3) sc__covers.nd rfl (by first | exact Or.inl rfl | exact Or.inr rfl) (pv 0))
      (pss_cons (ps_for PassesOwn.never rfl (pi_list (pv 2)) (pg_tup (by rfl) (pgs_cons (pg_name (i := 4) sc__covers.nd rfl (by first | exact Or.inl rfl | exact Or.inr rfl)) (pgs_cons (pg_name (i := 5) sc__covers.nd rfl (by first | exact Or.inl rfl | exact Or.inr rfl)) pgs_nil))) (pss_cons (ps_if (PW.pt (pw_or (pt_cmpR op_ne (pv 4) (pv 3) (nomark _)) (pw_or1 (pt_cmpR op_lt (pv 5) pe_int (nomark _))))) (pss_one (ps_ret pe_bl)) pss_nil)
      (pss_one (ps_set (i := 3) sc__covers.nd rfl (by first | exact Or.inl rfl | exact Or.inr rfl) (pe_op op_add (pe_op op_add (pv 4) (pv 5)) pe_int)))))
      (pss_one (ps_ret (pe_and (pe_cmpR op_gt (pe_callB call_len_seq (by rfl) T.m_len (by decide +kernel) (pa_cons (pv 2) pa_nil)) pe_int (nomark _)) (pe_one (pe_cmpR op_eq (pv 3) (pe_op op_add (pv 1) pe_int) (nomark _)))))))), ?_⟩
    refine Rd.start (σ' := [some (.int s), some (.int e), some (.ref l), none, none, none]) rfl ?_
    try dsimp only [cxOf, Cx.nox, Cx.wish]
    walk_at "go"
    refine Rd.forlGo (SqL.of hl) (fun i σ' H' => ∃ nt x1 x2, σ' = [some (.int s), some (.int e), some (.ref l), some (.int nt), x1, x2] ∧ H' = H ∧ covB s e cs = covB nt e (cs.drop i)) ⟨s, none, none, rfl, rfl, rfl⟩ (fun i σ' H' _ h => by obtain ⟨_, _, _, _, rfl, _⟩ := h; exact SqL.of hl) (fun i x σ' H' hx h => ?_) (fun σ' H' h => ?_)
    · obtain ⟨nt, x1, x2, rfl, rfl, hc⟩ := h
      obtain ⟨p, r, rfl, hr2, hp⟩ := TL.row (l := l) hR hx
      obtain ⟨c, hci, rfl⟩ := cells_at hr2
      rw [drop_at hci] at hc
      walk_at "go"
      by_cases h1 : c.1 = nt
      · by_cases h2 : 0 ≤ c.2
        · walk_at "go"
          refine ⟨_, _, _, rfl, rfl, ?_⟩
          rw [hc]
          simp only [covB, decide_eq_true h1, decide_eq_true h2, Bool.true_and]
          rw [h1]
        · walk_at "go"
          have z : covB s e cs = false := by
            rw [hc]
            simp [covB, h2]
          rw [z] at q
          exact q
      · walk_at "go"
        have z : covB s e cs = false := by
          rw [hc]
          simp [covB, h1]
        rw [z] at q
        exact q
    · obtain ⟨nt, x1, x2, rfl, rfl, hc⟩ := h
      have hlen : ps.length = cs.length := by rw [hR.len, List.length_map]
      rw [List.length_map, hlen, List.drop_length] at hc
      walk_at "go"
      by_cases hz : cs.length = 0
      · have hz2 : ¬ (0 < ((ps.map V.ref).length : Int)) := by rw [List.length_map]; omega
        walk_at "go"
        have e0 : cs = [] := List.length_eq_zero_iff.mp hz
        subst e0
        have z : covB s e [] = false := decide_eq_false (by omega)
        rw [z] at q
        exact q
      · have hz2 : 0 < ((ps.map V.ref).length : Int) := by rw [List.length_map]; omega
        walk_at "go"
        rw [hc] at q
        exact q
theorem put_get {kvs : List (Key × V)} {n : Int} {v : V} : valV (putK kvs (Sum.inl n : Key) v) (Sum.inl n : Key) = some v := by
  rw [valV_put, if_pos rfl]
theorem put_other {kvs : List (Key × V)} {n m : Int} {v : V} (h : m ≠ n) : valV (putK kvs (Sum.inl n : Key) v) (Sum.inl m : Key) = valV kvs (Sum.inl m : Key) := by
  rw [valV_put, if_neg (fun z => h (Sum.inl.inj z))]
def spSure (n : Nat) : Sp := fun vs H Q _ => ∃ (v : V) (l : Addr) (D : Den) (cs : List (Int × Int)), vs = [v, .ref l] ∧ Ex H n true v D ∧ n ≤ 12 ∧ TL H l (cs.map cRow) ∧ cs.length ≤ 900 ∧ (∀ c ∈ cs, 0 ≤ c.2) ∧ ∀ H', Same H H' → Q (.bl (cs.all (sureB D))) H'
theorem sure_go {n : Nat} {H : Hp} {v : V} {l : Addr} {D : Den} {cs : List (Int × Int)} {Q : VK} {E : XK} (hv : Ex H n true v D) (hn : n ≤ 12) (t : TL H l (cs.map cRow)) (hl : cs.length ≤ 900) (h0 : ∀ c ∈ cs, 0 ≤ c.2) (q : ∀ H', Same H H' → Q (.bl (cs.all (sureB D))) H') : CALL (spSure n) [v, .ref l] H Q E := ⟨v, l, D, cs, rfl, hv, hn, t, hl, h0, q⟩
set_option maxHeartbeats 16000000 in
theorem ok_sure (T : Txt K mg) (n lv : Nat) (R : ∃ (f : Addr) (fd : FuncData), FnOk P w K mg base CX0 lv f fd ["q", "k"] (spFar n true) ∧ mg "reach" = some (.ref f) ∧ PySem.W.keepIn K (.ref f) = true ∧ L2.Binds K fd ["q", "k"] [])
    (Va : ∃ (f : Addr) (fd : FuncData), FnOk P w K mg base CX0 lv f fd ["q", "t"] (spVal n true) ∧ mg "value" = some (.ref f) ∧ PySem.W.keepIn K (.ref f) = true ∧ L2.Binds K fd ["q", "t"] []) :
    ∃ (f : Addr) (fd : FuncData), FnOk P w K mg base CX0 (lv + 1) f fd ["q", "cells"] (spSure n) ∧ mg "_all_sure" = some (.ref f) ∧ PySem.W.keepIn K (.ref f) = true ∧ L2.Binds K fd ["q", "cells"] [] := by
  obtain ⟨f, fd, F, g, bi⟩ := T.d__all_sure
  obtain ⟨f_reach, fd_reach, G_reach, g_reach, kp_reach, b_reach⟩ := R
  obtain ⟨f_value, fd_value, G_value, g_value, kp_value, b_value⟩ := Va
  refine ⟨f, fd, ?_, g, F.kp, bi⟩
  refine F.ok sc__all_sure (fun vs H Q E h => ?_) (fun cdv A outer s H vs Q E hr h => ?_)
  · obtain ⟨v, l, D, cs, rfl, _⟩ := h; rfl
  · obtain ⟨v, l, D, cs, rfl, hv, hn, ⟨ps, hl, hR⟩, hle, h0, q⟩ := h
    refine ⟨_, (pss_cons (ps_set (i := 2) sc__all_sure.nd rfl (by first | exact Or.inl rfl | exact Or.inr rfl) pe_dnewK)
      (pss_cons (ps_for PassesOwn.never rfl (pi_list (pv 1)) (pg_tup (by rfl) (pgs_cons (pg_name (i := 3) sc__all_sure.nd rfl (by first | exact Or.inl rfl | exact Or.inr rfl)) (pgs_cons (pg_name (i := 4) sc__all_sure.nd rfl (by first | exact Or.inl rfl | exact Or.inr rfl)) pgs_nil))) (pss_cons (ps_if (pt_cmp (pc_dnotin (hu_of hr) (pv 4) (pv 2))) (pss_one (ps_dput (hu_of hr) (pv 2) (pv 4) (pe_call G_reach (hr.mono (by omega)) (by rfl) g_reach kp_reach b_reach .nil pass0 (pa_cons (pv 0) (pa_cons (pv 4) pa_nil))) rfl)) pss_nil)
      (pss_cons (ps_set (i := 5) sc__all_sure.nd rfl (by first | exact Or.inl rfl | exact Or.inr rfl) (pe_call G_value (hr.mono (by omega)) (by rfl) g_value kp_value b_value .nil pass0 (pa_cons (pv 0) (pa_cons (pv 3) pa_nil))))
      (pss_cons (ps_set (i := 6) sc__all_sure.nd rfl (by first | exact Or.inl rfl | exact Or.inr rfl) (pe_ifExp (pt_cmpR op_ge (pv 5) pe_int (nomark _)) (pe_cmpR op_le (pe_dget (hu_of hr) (pv 2) (pv 4) (fun _ _ => rfl)) (pv 5) (nomark _)) (pe_cmpR op_lt (pe_dget (hu_of hr) (pv 2) (pv 4) (fun _ _ => rfl)) (pe_un un_neg (pv 5)) (nomark _))))
      (pss_one (ps_if (pt_not (pt_val (pv 6))) (pss_one (ps_ret pe_bl)) pss_nil))))))
      (pss_one (ps_ret pe_bl)))), ?_⟩
    refine Rd.start (σ' := [some v, some (.ref l), none, none, none, none, none]) rfl ?_
    try dsimp only [cxOf, Cx.nox, Cx.wish]
    walk_at "go"
    refine Rd.dnew fun kd nk => ?_
    walk_at "go"
    have hlen : ps.length = cs.length := by rw [hR.len, List.length_map]
    refine Rd.forlGo (SqL.of (keep nk hl)) (fun i σ' H' => ∃ kvs x1 x2 x3 x4, σ' = [some v, some (.ref l), some (.ref kd), x1, x2, x3, x4] ∧ Same H H' ∧ H' kd = some (.dK kvs) ∧ kvs.length ≤ i ∧ (∀ (m : Int) y, valV kvs (Sum.inl m : Key) = some y → y = .int (D.far m)) ∧ (cs.take i).all (sureB D) = true)
      ⟨[], none, none, none, none, rfl, Same.put nk, upd_same, Nat.le_refl _, (fun m y z => by exact absurd z (by simp [valV_nil])), rfl⟩ (fun i σ' H' _ h => by obtain ⟨_, _, _, _, _, _, sm, _⟩ := h; exact sm.seq (SqL.of hl)) (fun i x σ' H' hx h => ?_) (fun σ' H' h => ?_)
    · obtain ⟨kvs, x1, x2, x3, x4, rfl, sm, hk, hkl, hkv, ha⟩ := h
      obtain ⟨p, r, rfl, hr2, hp⟩ := TL.row (l := l) hR hx
      obtain ⟨c, hci, rfl⟩ := cells_at hr2
      have hi : i < cs.length := (List.getElem?_eq_some_iff.mp hci).1
      have c0 : 0 ≤ c.2 := h0 c (List.mem_of_getElem? hci)
      have hp' := sm _ _ hp
      have tk : (cs.take (i + 1)).all (sureB D) = sureB D c := by
        rw [List.take_add_one, hci, List.all_append, ha]
        simp
      have done : ∀ b : Bool, sureB D c = b → b = false → cs.all (sureB D) = false := by
        intro b e1 e2
        rw [List.all_eq_false]
        exact ⟨c, List.mem_of_getElem? hci, by rw [e1, e2]; simp⟩
      walk_at "go"
      cases z : valV kvs (Sum.inl c.2 : Key) with
      | some y =>
        obtain rfl := hkv _ _ z
        rw [show (!(some (V.int (D.far c.2))).isSome) = false from rfl]
        walk_at "go"
        refine val_go (hv.sub (TupSub.same sm)) hn fun H1 s1 => ?_
        have hk1 := s1 _ _ hk
        by_cases w0 : 0 ≤ D.val c.1
        · have es : sureB D c = decide (D.far c.2 ≤ D.val c.1) := by unfold sureB; rw [if_pos w0]
          by_cases w1 : D.far c.2 ≤ D.val c.1
          · have e2 : decide (D.far c.2 ≤ D.val c.1) = true := decide_eq_true w1
            walk_at "go"
            refine ⟨kvs, _, _, _, _, rfl, sm.trans s1, hk1, by omega, hkv, ?_⟩
            rw [tk, es, e2]
          · have e2 : decide (D.far c.2 ≤ D.val c.1) = false := decide_eq_false w1
            walk_at "go"
            have r := q _ (sm.trans s1)
            rw [done _ (es.trans e2) rfl] at r
            exact r
        · have es : sureB D c = decide (D.far c.2 < -D.val c.1) := by unfold sureB; rw [if_neg w0]
          by_cases w1 : D.far c.2 < -D.val c.1
          · have e2 : decide (D.far c.2 < -D.val c.1) = true := decide_eq_true w1
            walk_at "go"
            refine ⟨kvs, _, _, _, _, rfl, sm.trans s1, hk1, by omega, hkv, ?_⟩
            rw [tk, es, e2]
          · have e2 : decide (D.far c.2 < -D.val c.1) = false := decide_eq_false w1
            walk_at "go"
            have r := q _ (sm.trans s1)
            rw [done _ (es.trans e2) rfl] at r
            exact r
      | none =>
        rw [show (!(none : Option V).isSome) = true from rfl]
        walk_at "go"
        refine far_go (hv.sub (TupSub.same sm)) hn c0 fun H1 s1 => ?_
        have hk1 := s1 _ _ hk
        walk_at "go"
        refine Rd.dputI hk1 (by omega) ?_
        have sm2 : Same H (upd H1 kd (.dK (putK kvs (Sum.inl c.2 : Key) (.int (D.far c.2))))) := Same.mut (sm.trans s1) nk
        have hk2 : (upd H1 kd (.dK (putK kvs (Sum.inl c.2 : Key) (.int (D.far c.2))))) kd = some (.dK (putK kvs (Sum.inl c.2 : Key) (.int (D.far c.2)))) := upd_same
        have pl : (putK kvs (Sum.inl c.2 : Key) (V.int (D.far c.2))).length ≤ i + 1 := by
          rw [putK_new _ z, List.length_append, List.length_singleton]
          omega
        have hkv2 : ∀ (m : Int) y, valV (putK kvs (Sum.inl c.2 : Key) (V.int (D.far c.2))) (Sum.inl m : Key) = some y → y = .int (D.far m) := by
          intro m y hy
          by_cases e : m = c.2
          · subst e
            rw [put_get] at hy
            exact (Option.some.inj hy).symm
          · rw [put_other e] at hy
            exact hkv _ _ hy
        have z2 : valV (putK kvs (Sum.inl c.2 : Key) (V.int (D.far c.2))) (Sum.inl c.2 : Key) = some (.int (D.far c.2)) := put_get
        walk_at "go"
        refine val_go (hv.sub (TupSub.same sm2)) hn fun H2 s2 => ?_
        have hk3 := s2 _ _ hk2
        by_cases w0 : 0 ≤ D.val c.1
        · have es : sureB D c = decide (D.far c.2 ≤ D.val c.1) := by unfold sureB; rw [if_pos w0]
          by_cases w1 : D.far c.2 ≤ D.val c.1
          · have e2 : decide (D.far c.2 ≤ D.val c.1) = true := decide_eq_true w1
            walk_at "go"
            refine ⟨_, _, _, _, _, rfl, sm2.trans s2, hk3, pl, hkv2, ?_⟩
            rw [tk, es, e2]
          · have e2 : decide (D.far c.2 ≤ D.val c.1) = false := decide_eq_false w1
            walk_at "go"
            have r := q _ (sm2.trans s2)
            rw [done _ (es.trans e2) rfl] at r
            exact r
        · have es : sureB D c = decide (D.far c.2 < -D.val c.1) := by unfold sureB; rw [if_neg w0]
          by_cases w1 : D.far c.2 < -D.val c.1
          · have e2 : decide (D.far c.2 < -D.val c.1) = true := decide_eq_true w1
            walk_at "go"
            refine ⟨_, _, _, _, _, rfl, sm2.trans s2, hk3, pl, hkv2, ?_⟩
            rw [tk, es, e2]
          · have e2 : decide (D.far c.2 < -D.val c.1) = false := decide_eq_false w1
            walk_at "go"
            have r := q _ (sm2.trans s2)
            rw [done _ (es.trans e2) rfl] at r
            exact r
    · obtain ⟨kvs, x1, x2, x3, x4, rfl, sm, hk, hkl, hkv, ha⟩ := h
      rw [List.length_map, hlen, List.take_length] at ha
      walk_at "go"
      have r := q _ sm
      rw [ha] at r
      exact r
def spTakes (n : Nat) : Sp := fun vs H Q _ => ∃ (v : V) (s e : Int) (l : Addr) (D : Den) (cs : List (Int × Int)), vs = [v, .int s, .int e, .ref l] ∧ Ex H n true v D ∧ n ≤ 12 ∧ s ≤ e ∧ TL H l (cs.map cRow) ∧ cs.length ≤ 900 ∧ ∀ H', Same H H' → Q (.bl (covB s e cs && cs.all (sureB D))) H'
theorem takes_go {n : Nat} {H : Hp} {v : V} {s e : Int} {l : Addr} {D : Den} {cs : List (Int × Int)} {Q : VK} {E : XK} (hv : Ex H n true v D) (hn : n ≤ 12) (h : s ≤ e) (t : TL H l (cs.map cRow)) (hl : cs.length ≤ 900) (q : ∀ H', Same H H' → Q (.bl (covB s e cs && cs.all (sureB D))) H') : CALL (spTakes n) [v, .int s, .int e, .ref l] H Q E := ⟨v, s, e, l, D, cs, rfl, hv, hn, h, t, hl, q⟩
theorem cov_nn {e : Int} : ∀ {cs : List (Int × Int)} {s : Int}, covB s e cs = true → ∀ c ∈ cs, 0 ≤ c.2
  | [], _, _ => by intro c hc; cases hc
  | d :: r, s, h => by
    intro c hc
    simp only [covB, Bool.and_eq_true, decide_eq_true_eq] at h
    rcases List.mem_cons.mp hc with rfl | hc
    · exact h.1.2
    · exact cov_nn h.2 c hc
set_option maxHeartbeats 8000000 in
theorem ok_takes (T : Txt K mg) (n lv : Nat) (S : ∃ (f : Addr) (fd : FuncData), FnOk P w K mg base CX0 (lv + 1) f fd ["q", "cells"] (spSure n) ∧ mg "_all_sure" = some (.ref f) ∧ PySem.W.keepIn K (.ref f) = true ∧ L2.Binds K fd ["q", "cells"] []) :
    ∃ (f : Addr) (fd : FuncData), FnOk P w K mg base CX0 (lv + 2) f fd ["q", "start", "end", "cells"] (spTakes n) ∧ mg "takes" = some (.ref f) ∧ PySem.W.keepIn K (.ref f) = true ∧ L2.Binds K fd ["q", "start", "end", "cells"] [] := by
  obtain ⟨f, fd, F, g, bi⟩ := T.d_takes
  obtain ⟨f__all_sure, fd__all_sure, G__all_sure, g__all_sure, kp__all_sure, b__all_sure⟩ := S
  obtain ⟨f__covers, fd__covers, G__covers, g__covers, kp__covers, b__covers⟩ := ok_cov (P := P) (w := w) (base := base) T
  refine ⟨f, fd, ?_, g, F.kp, bi⟩
  refine F.ok sc_takes (fun vs H Q E h => ?_) (fun cdv A outer s H vs Q E hr h => ?_)
  · obtain ⟨v, s, e, l, D, cs, rfl, _⟩ := h; rfl
  · obtain ⟨v, s, e, l, D, cs, rfl, hv, hn, hse, ht, hle, q⟩ := h
    refine ⟨_, (pss_one (ps_ret (pe_and (pe_call G__covers (hr.mono (by omega)) (by rfl) g__covers kp__covers b__covers .nil pass0 (pa_cons (pv 1) (pa_cons (pv 2) (pa_cons (pv 3) pa_nil)))) (pe_one (pe_call G__all_sure (hr.mono (by omega)) (by rfl) g__all_sure kp__all_sure b__all_sure .nil pass0 (pa_cons (pv 0) (pa_cons (pv 3) pa_nil))))))), ?_⟩
    refine Rd.start (σ' := [some v, some (.int s), some (.int e), some (.ref l)]) rfl ?_
    try dsimp only [cxOf, Cx.nox, Cx.wish]
    walk_at "go"
    refine cov_go hse ht ?_
    walk_at "go"
    cases z : covB s e cs with
    | false =>
      rw [z] at q
      walk_at "go"
      exact q _ (Same.refl _)
    | true =>
      rw [z] at q
      walk_at "go"
      refine sure_go hv hn ht hle (cov_nn z) fun H1 s1 => ?_
      exact q _ s1
def spChOf (n : Nat) : Sp := fun vs H Q _ => ∃ (v : V) (l : Addr) (D : Den) (cs : List (Int × Int)), vs = [v, .ref l] ∧ Ex H n true v D ∧ n ≤ 12 ∧ TL H l (cs.map cRow) ∧ cs.length ≤ 900 ∧ ∀ H' p, Same H H' → H p = none → TL H' p (chOf D.val none cs) → Q (.ref p) H'
theorem chOf_go {n : Nat} {H : Hp} {v : V} {l : Addr} {D : Den} {cs : List (Int × Int)} {Q : VK} {E : XK} (hv : Ex H n true v D) (hn : n ≤ 12) (t : TL H l (cs.map cRow)) (hl : cs.length ≤ 900) (q : ∀ H' p, Same H H' → H p = none → TL H' p (chOf D.val none cs) → Q (.ref p) H') : CALL (spChOf n) [v, .ref l] H Q E := ⟨v, l, D, cs, rfl, hv, hn, t, hl, q⟩
def optV : Option Bool → V
  | none => .non
  | some b => .bl b
set_option maxHeartbeats 16000000 in
theorem ok_chOf (T : Txt K mg) (n lv : Nat) (Va : ∃ (f : Addr) (fd : FuncData), FnOk P w K mg base CX0 lv f fd ["q", "t"] (spVal n true) ∧ mg "value" = some (.ref f) ∧ PySem.W.keepIn K (.ref f) = true ∧ L2.Binds K fd ["q", "t"] []) :
    ∃ (f : Addr) (fd : FuncData), FnOk P w K mg base CX0 (lv + 1) f fd ["q", "cells"] (spChOf n) ∧ mg "changes_of" = some (.ref f) ∧ PySem.W.keepIn K (.ref f) = true ∧ L2.Binds K fd ["q", "cells"] [] := by
  obtain ⟨f, fd, F, g, bi⟩ := T.d_changes_of
  obtain ⟨f_value, fd_value, G_value, g_value, kp_value, b_value⟩ := Va
  refine ⟨f, fd, ?_, g, F.kp, bi⟩
  refine F.ok sc_changes_of (fun vs H Q E h => ?_) (fun cdv A outer s H vs Q E hr h => ?_)
  · obtain ⟨v, l, D, cs, rfl, _⟩ := h; rfl
  · obtain ⟨v, l, D, cs, rfl, hv, hn, ⟨ps, hl, hR⟩, hle, q⟩ := h
    refine ⟨_, (pss_cons (ps_set (i := 2) sc_changes_of.nd rfl (by first | exact Or.inl rfl | exact Or.inr rfl) (pe_lst pa_nil))
      (pss_cons (ps_set (i := 3) sc_changes_of.nd rfl (by first | exact Or.inl rfl | exact Or.inr rfl) pe_non)
      (pss_cons (ps_for PassesOwn.never rfl (pi_list (pv 1)) (pg_tup (by rfl) (pgs_cons (pg_name (i := 4) sc_changes_of.nd rfl (by first | exact Or.inl rfl | exact Or.inr rfl)) (pgs_cons (pg_name (i := 5) sc_changes_of.nd rfl (by first | exact Or.inl rfl | exact Or.inr rfl)) pgs_nil))) (pss_cons (ps_set (i := 6) sc_changes_of.nd rfl (by first | exact Or.inl rfl | exact Or.inr rfl) (pe_cmpR op_ge (pe_call G_value (hr.mono (by omega)) (by rfl) g_value kp_value b_value .nil pass0 (pa_cons (pv 0) (pa_cons (pv 4) pa_nil))) pe_int (nomark _)))
      (pss_cons (ps_if (PW.pt (pw_and (pt_cmpR op_notN (pv 3) pe_non (nomark _)) (pw_and1 (pt_cmpR op_ne (pv 6) (pv 3) (nomark _))))) (pss_one (ps_expr (pe_bm PySem.F.plainAttrs_list PySem.F.slot_list_append PySem.F.type_list_append mt_append (pv 2) (pa_cons (pe_tup (pa_cons (pv 4) (pa_cons (pe_ifExp (pt_val (pv 6)) pe_str pe_str) pa_nil))) pa_nil)))) pss_nil)
      (pss_one (ps_set (i := 3) sc_changes_of.nd rfl (by first | exact Or.inl rfl | exact Or.inr rfl) (pv 6))))))
      (pss_one (ps_ret (pv 2)))))), ?_⟩
    refine Rd.start (σ' := [some v, some (.ref l), none, none, none, none, none]) rfl ?_
    try dsimp only [cxOf, Cx.nox, Cx.wish]
    walk_at "go"
    refine Rd.new (by simp) fun fp nf => ?_
    walk_at "go"
    have hlen : ps.length = cs.length := by rw [hR.len, List.length_map]
    refine Rd.forlGo (SqL.of (keep nf hl)) (fun i σ' H' => ∃ b x1 x2 x3 acc, σ' = [some v, some (.ref l), some (.ref fp), some (optV b), x1, x2, x3] ∧ Same H H' ∧ TL H' fp acc ∧ acc.length ≤ i ∧ acc ++ chOf D.val b (cs.drop i) = chOf D.val none cs)
      ⟨none, none, none, none, [], rfl, Same.put nf, ⟨[], upd_same, trivial⟩, Nat.le_refl _, rfl⟩ (fun i σ' H' _ h => by obtain ⟨_, _, _, _, _, _, sm, _⟩ := h; exact sm.seq (SqL.of hl)) (fun i x σ' H' hx h => ?_) (fun σ' H' h => ?_)
    · obtain ⟨b, x1, x2, x3, acc, rfl, sm, hT, hal, hch⟩ := h
      obtain ⟨p, r, rfl, hr2, hp⟩ := TL.row (l := l) hR hx
      obtain ⟨c, hci, rfl⟩ := cells_at hr2
      have hi : i < cs.length := (List.getElem?_eq_some_iff.mp hci).1
      have hp' := sm _ _ hp
      rw [drop_at hci] at hch
      walk_at "go"
      refine val_go (hv.sub (TupSub.same sm)) hn fun H1 s1 => ?_
      obtain ⟨qs, hfp, hrows⟩ := hT.same s1
      have hq : qs.length = acc.length := hrows.len
      walk_at "go"
      rw [show decide (0 ≤ D.val c.1) = upB D.val c.1 from rfl]
      cases b with
      | none =>
        show NOTN V.non _ _ _
        walk_at "go"
        exact ⟨some (upB D.val c.1), _, _, _, acc, rfl, sm.trans s1, ⟨qs, hfp, hrows⟩, by omega, hch⟩
      | some b =>
        show NOTN (V.bl b) _ _ _
        walk_at "go"
        show rNe (V.bl (upB D.val c.1)) (V.bl b) _ _
        by_cases e : upB D.val c.1 = b
        · walk_at "go"
          refine ⟨some (upB D.val c.1), _, _, _, acc, rfl, sm.trans s1, ⟨qs, hfp, hrows⟩, by omega, ?_⟩
          rw [← hch, chOf, if_neg (fun z => z e), List.nil_append]
        · walk_at "go"
          cases u : upB D.val c.1 with
          | true =>
            rw [u] at e
            walk_at "go"
            refine Rd.new (by simp) fun p2 np2 => ?_
            walk_at "go"
            refine Rd.app (keep np2 hfp) (by rw [List.length_map]; omega) ?_
            walk_at "go"
            have rr := TL.app (keep np2 hfp) (hrows.sub (TupSub.same (Same.put np2))) (upd_same (H := H1) (a := p2) (o := .tup [.int c.1, .str "up"]))
            refine ⟨some true, _, _, _, acc ++ [[.int c.1, .str "up"]], rfl, Same.mut ((sm.trans s1).trans (Same.put np2)) nf, rr, by rw [List.length_append, List.length_singleton]; omega, ?_⟩
            rw [← hch, chOf, if_pos (by rw [u]; exact e), List.append_assoc, u]
            unfold chRow
            rw [u]
            rfl
          | false =>
            rw [u] at e
            walk_at "go"
            refine Rd.new (by simp) fun p2 np2 => ?_
            walk_at "go"
            refine Rd.app (keep np2 hfp) (by rw [List.length_map]; omega) ?_
            walk_at "go"
            have rr := TL.app (keep np2 hfp) (hrows.sub (TupSub.same (Same.put np2))) (upd_same (H := H1) (a := p2) (o := .tup [.int c.1, .str "down"]))
            refine ⟨some false, _, _, _, acc ++ [[.int c.1, .str "down"]], rfl, Same.mut ((sm.trans s1).trans (Same.put np2)) nf, rr, by rw [List.length_append, List.length_singleton]; omega, ?_⟩
            rw [← hch, chOf, if_pos (by rw [u]; exact e), List.append_assoc, u]
            unfold chRow
            rw [u]
            rfl
    · obtain ⟨b, x1, x2, x3, acc, rfl, sm, hT, hal, hch⟩ := h
      rw [List.length_map, hlen, List.drop_length] at hch
      have e : acc = chOf D.val none cs := by
        rw [← hch]
        cases b <;> simp [chOf]
      rw [e] at hT
      walk_at "go"
      exact q _ fp sm nf hT
end

section
open Rd
variable {P : Program} {w : World} {K : PySem.W.Frag} {mg : Str → Option Value} {base : Heap}
def spIs : Sp := fun vs H Q _ => ∃ a b : Bool, vs = [.bl a, .bl b] ∧ Q (.bl (decide (a = b))) H
set_option maxHeartbeats 4000000 in
theorem ok_is (T : Txt K mg) : ∃ (f : Addr) (fd : FuncData), FnOk P w K mg base CX0 1 f fd ["actual", "due"] spIs ∧ mg "_law_is" = some (.ref f) ∧ PySem.W.keepIn K (.ref f) = true ∧ L2.Binds K fd ["actual", "due"] [] := by
  obtain ⟨f, fd, F, g, bi⟩ := T.d__law_is
  refine ⟨f, fd, ?_, g, F.kp, bi⟩
  refine F.ok sc__law_is (fun vs H Q E h => ?_) (fun cdv A outer s H vs Q E hr h => ?_)
  · obtain ⟨a, b, rfl, _⟩ := h; rfl
  · obtain ⟨a, b, rfl, q⟩ := h
    refine ⟨_, (pss_one (ps_ret (pe_and (pe_callB call_isi (by rfl) T.m_isinstance (by decide +kernel) (pa_cons (pv 0) (pa_cons (pe_bltn (v := .ty "bool") (by rfl) T.m_bool (by decide +kernel) rfl) pa_nil))) (pe_one (pe_cmpR op_eq (pv 0) (pv 1) (nomark _)))))), ?_⟩
    refine Rd.start (σ' := [some (.bl a), some (.bl b)]) rfl ?_
    try dsimp only [cxOf, Cx.nox, Cx.wish]
    walk_at "go"
    refine Rd.isi (b := true) (.base (.bl a)) (kit_ty (by decide +kernel)) ?_
    walk_at "go"
    exact q
theorem is_go {H : Hp} {a b : Bool} {Q : VK} {E : XK} (q : Q (.bl (decide (a = b))) H) : CALL spIs [.bl a, .bl b] H Q E := ⟨a, b, rfl, q⟩
end

section
open Rd
variable {P : Program} {w : World} {K : PySem.W.Frag} {mg : Str → Option Value} {base : Heap}
def spWPart : Sp := fun vs H Q _ => ∃ d cc : Addr, vs = [.ref d] ∧ DrawS H d cc ∧ ∀ p b g H', H' p = some (.tup [.str "wave", b]) → Ex H' 1 false b g → DrawS H' d cc → But d H H' → Q (.ref p) H'
theorem wpart_go {H : Hp} {d cc : Addr} {Q : VK} {E : XK} (S : DrawS H d cc) (q : ∀ p b g H', H' p = some (.tup [.str "wave", b]) → Ex H' 1 false b g → DrawS H' d cc → But d H H' → Q (.ref p) H') : CALL spWPart [.ref d] H Q E := ⟨d, cc, rfl, S, q⟩
set_option maxHeartbeats 4000000 in
theorem ok_wpart (T : Txt K mg) : ∃ (f : Addr) (fd : FuncData), FnOk P w K mg base CX0 3 f fd ["state"] spWPart ∧ mg "_law_wave_part" = some (.ref f) ∧ PySem.W.keepIn K (.ref f) = true ∧ L2.Binds K fd ["state"] [] := by
  obtain ⟨f, fd, F, g, bi⟩ := T.d__law_wave_part
  obtain ⟨f__law_draw, fd__law_draw, G__law_draw, g__law_draw, kp__law_draw, b__law_draw⟩ := ok_draw (P := P) (w := w) (base := base) T
  obtain ⟨f__law_pick, fd__law_pick, G__law_pick, g__law_pick, kp__law_pick, b__law_pick⟩ := ok_pick (P := P) (w := w) (base := base) T
  refine ⟨f, fd, ?_, g, F.kp, bi⟩
  refine F.ok sc__law_wave_part (fun vs H Q E h => ?_) (fun cdv A outer s H vs Q E hr h => ?_)
  · obtain ⟨d, cc, rfl, _⟩ := h; rfl
  · obtain ⟨d, cc, rfl, S1, q⟩ := h
    refine ⟨_, (pss_cons (ps_set (i := 1) sc__law_wave_part.nd rfl (by first | exact Or.inl rfl | exact Or.inr rfl) (pe_op op_mul (pe_call G__law_pick (hr.mono (by omega)) (by rfl) g__law_pick kp__law_pick b__law_pick .nil pass0 (pa_cons (pv 0) (pa_cons (pe_lst (pa_cons (pe_un un_neg pe_int) (pa_cons pe_int pa_nil))) pa_nil))) (pe_op op_add pe_int (pe_call G__law_draw (hr.mono (by omega)) (by rfl) g__law_draw kp__law_draw b__law_draw .nil pass0 (pa_cons (pv 0) (pa_cons (pe_call G__law_pick (hr.mono (by omega)) (by rfl) g__law_pick kp__law_pick b__law_pick .nil pass0 (pa_cons (pv 0) (pa_cons (pe_lst (pa_cons pe_int (pa_cons pe_int (pa_cons pe_int pa_nil)))) pa_nil))) pa_nil))))))
      (pss_one (ps_ret (pe_tup (pa_cons pe_str (pa_cons (pe_tup (pa_cons pe_str (pa_cons (pe_call G__law_draw (hr.mono (by omega)) (by rfl) g__law_draw kp__law_draw b__law_draw .nil pass0 (pa_cons (pv 0) (pa_cons pe_int pa_nil))) (pa_cons (pv 1) (pa_cons (pe_call G__law_pick (hr.mono (by omega)) (by rfl) g__law_pick kp__law_pick b__law_pick .nil pass0 (pa_cons (pv 0) (pa_cons (pe_lst (pa_cons pe_int (pa_cons pe_int (pa_cons pe_int (pa_cons pe_int pa_nil))))) pa_nil))) pa_nil))))) pa_nil)))))), ?_⟩
    refine Rd.start (σ' := [some (.ref d), none]) rfl ?_
    try dsimp only [cxOf, Cx.nox, Cx.wish]
    walk_at "go"
    refine pickI [-1, 1] (-1) 1 S1 rfl (by decide) (by decide) (by decide) fun k1 H2 m1 l1 u1 S2 B2 => ?_
    walk_at "go"
    refine pickI [300, 9000, 200000] 1 200000 S2 rfl (by decide) (by decide) (by decide) fun k2 H3 _ l2 u2 S3 B3 => ?_
    walk_at "go"
    refine draw_go S3 (by omega) (by omega) fun n1 H4 n10 n11 S4 B4 => ?_
    walk_at "go"
    refine draw_go S4 (by omega) (by omega) fun n2 H5 n20 n21 S5 B5 => ?_
    walk_at "go"
    refine pickI [1, 1, 7, 60] 1 60 S5 rfl (by decide) (by decide) (by decide) fun k3 H6 _ l3 u3 S6 B6 => ?_
    walk_at "go"
    refine Rd.new (by simp) fun p1 np1 => ?_
    walk_at "go"
    refine Rd.new (by simp) fun p2 np2 => ?_
    refine q p2 _ _ _ upd_same (Ex.aturn (n := 0) (keep np2 upd_same) ⟨by omega, by omega⟩ ?_ ⟨l3, by omega⟩) ((S6.new np1).new np2) ((((((B2.trans B3).trans B4).trans B5).trans B6).trans (But.new np1)).trans (But.new np2))
    have e : k1 = -1 ∨ k1 = 1 := by simpa using m1
    constructor <;> rcases e with e | e <;> subst e <;> omega
def spSeries : Sp := fun vs H Q _ => ∃ d cc : Addr, vs = [.ref d] ∧ DrawS H d cc ∧ ∀ v D H', Ex H' 6 true v D → DrawS H' d cc → But d H H' → Q v H'
theorem series_go {H : Hp} {d cc : Addr} {Q : VK} {E : XK} (S : DrawS H d cc) (q : ∀ v D H', Ex H' 6 true v D → DrawS H' d cc → But d H H' → Q v H') : CALL spSeries [.ref d] H Q E := ⟨d, cc, rfl, S, q⟩
theorem ExAll.app {H : Hp} {D : Addr} {n : Nat} {v : V} {g : Den} {vs : List V} {gs : List Den} (hD : H D = some (.lst vs)) (e : gs.length = vs.length) (h : ∀ (j : Nat) x g, vs[j]? = some x → gs[j]? = some g → Ex H n true x g) (hv : Ex H n true v g) :
    ∀ (j : Nat) x g', (vs ++ [v])[j]? = some x → (gs ++ [g])[j]? = some g' → Ex (upd H D (.lst (vs ++ [v]))) n true x g' := by
  intro j x g' hx hg
  refine Ex.sub (TupSub.putL hD) ?_
  by_cases hj : j < vs.length
  · rw [List.getElem?_append_left (by omega)] at hx hg
    exact h j x g' hx hg
  · have ej : j = vs.length := by
      have := (List.getElem?_eq_some_iff.mp hx).1
      rw [List.length_append, List.length_singleton] at this
      omega
    subst ej
    rw [List.getElem?_append_right (by omega)] at hx
    rw [List.getElem?_append_right (by omega)] at hg
    simp [e] at hx hg
    subst hx
    subst hg
    exact hv
set_option maxHeartbeats 16000000 in
theorem ok_series (T : Txt K mg) : ∃ (f : Addr) (fd : FuncData), FnOk P w K mg base CX0 4 f fd ["state"] spSeries ∧ mg "_law_series" = some (.ref f) ∧ PySem.W.keepIn K (.ref f) = true ∧ L2.Binds K fd ["state"] [] := by
  obtain ⟨f, fd, F, g, bi⟩ := T.d__law_series
  obtain ⟨f__law_draw, fd__law_draw, G__law_draw, g__law_draw, kp__law_draw, b__law_draw⟩ := ok_draw (P := P) (w := w) (base := base) T
  obtain ⟨f__law_pick, fd__law_pick, G__law_pick, g__law_pick, kp__law_pick, b__law_pick⟩ := ok_pick (P := P) (w := w) (base := base) T
  obtain ⟨f__law_wave_part, fd__law_wave_part, G__law_wave_part, g__law_wave_part, kp__law_wave_part, b__law_wave_part⟩ := ok_wpart (P := P) (w := w) (base := base) T
  refine ⟨f, fd, ?_, g, F.kp, bi⟩
  refine F.ok sc__law_series (fun vs H Q E h => ?_) (fun cdv A outer s H vs Q E hr h => ?_)
  · obtain ⟨d, cc, rfl, _⟩ := h; rfl
  · obtain ⟨d, cc, rfl, S1, q⟩ := h
    refine ⟨_, (pss_cons (ps_set (i := 1) sc__law_series.nd rfl (by first | exact Or.inl rfl | exact Or.inr rfl) (pe_lst pa_nil))
      (pss_cons (ps_for PassesOwn.never rfl (pi_range1 (by rfl) T.m_range (pa_cons (pe_op op_add pe_int (pe_call G__law_draw (hr.mono (by omega)) (by rfl) g__law_draw kp__law_draw b__law_draw .nil pass0 (pa_cons (pv 0) (pa_cons pe_int pa_nil)))) pa_nil)) (pg_name (i := 2) sc__law_series.nd rfl (by first | exact Or.inl rfl | exact Or.inr rfl)) (pss_cons (ps_set (i := 3) sc__law_series.nd rfl (by first | exact Or.inl rfl | exact Or.inr rfl) (pe_call G__law_wave_part (hr.mono (by omega)) (by rfl) g__law_wave_part kp__law_wave_part b__law_wave_part .nil pass0 (pa_cons (pv 0) pa_nil)))
      (pss_cons (ps_set (i := 4) sc__law_series.nd rfl (by first | exact Or.inl rfl | exact Or.inr rfl) (pe_call G__law_draw (hr.mono (by omega)) (by rfl) g__law_draw kp__law_draw b__law_draw .nil pass0 (pa_cons (pv 0) (pa_cons pe_int pa_nil))))
      (pss_cons (ps_if (pt_cmpR op_eq (pv 4) pe_int (nomark _)) (pss_one (ps_set (i := 3) sc__law_series.nd rfl (by first | exact Or.inl rfl | exact Or.inr rfl) (pe_tup (pa_cons pe_str (pa_cons (pv 3) (pa_cons (pe_call G__law_wave_part (hr.mono (by omega)) (by rfl) g__law_wave_part kp__law_wave_part b__law_wave_part .nil pass0 (pa_cons (pv 0) pa_nil)) (pa_cons pe_int pa_nil))))))) pss_nil)
      (pss_cons (ps_if (pt_cmpR op_eq (pv 4) pe_int (nomark _)) (pss_one (ps_set (i := 3) sc__law_series.nd rfl (by first | exact Or.inl rfl | exact Or.inr rfl) (pe_tup (pa_cons pe_str (pa_cons (pv 3) (pa_cons (pe_op op_sub (pe_call G__law_draw (hr.mono (by omega)) (by rfl) g__law_draw kp__law_draw b__law_draw .nil pass0 (pa_cons (pv 0) (pa_cons pe_int pa_nil))) pe_int) (pa_cons pe_int pa_nil))))))) pss_nil)
      (pss_cons (ps_if (pt_cmpR op_eq (pv 4) pe_int (nomark _)) (pss_one (ps_set (i := 3) sc__law_series.nd rfl (by first | exact Or.inl rfl | exact Or.inr rfl) (pe_tup (pa_cons pe_str (pa_cons (pe_tup (pa_cons pe_str (pa_cons (pe_ix ix_tup (pv 3) pe_int (fun _ _ => rfl)) (pa_cons (pe_tup (pa_cons pe_str (pa_cons (pe_call G__law_wave_part (hr.mono (by omega)) (by rfl) g__law_wave_part kp__law_wave_part b__law_wave_part .nil pass0 (pa_cons (pv 0) pa_nil)) (pa_cons (pe_call G__law_draw (hr.mono (by omega)) (by rfl) g__law_draw kp__law_draw b__law_draw .nil pass0 (pa_cons (pv 0) (pa_cons pe_int pa_nil))) (pa_cons pe_int pa_nil))))) pa_nil)))) pa_nil))))) pss_nil)
      (pss_one (ps_expr (pe_bm PySem.F.plainAttrs_list PySem.F.slot_list_append PySem.F.type_list_append mt_append (pv 1) (pa_cons (pv 3) pa_nil))))))))))
      (pss_cons (ps_expr (pe_bm PySem.F.plainAttrs_list PySem.F.slot_list_append PySem.F.type_list_append mt_append (pv 1) (pa_cons (pe_tup (pa_cons pe_str (pa_cons (pe_call G__law_pick (hr.mono (by omega)) (by rfl) g__law_pick kp__law_pick b__law_pick .nil pass0 (pa_cons (pv 0) (pa_cons (pe_lst (pa_cons pe_int (pa_cons pe_int (pa_cons pe_int (pa_cons (pe_un un_neg pe_int) (pa_cons (pe_op op_sub (pe_call G__law_draw (hr.mono (by omega)) (by rfl) g__law_draw kp__law_draw b__law_draw .nil pass0 (pa_cons (pv 0) (pa_cons pe_int pa_nil))) pe_int) pa_nil)))))) pa_nil))) pa_nil))) pa_nil)))
      (pss_one (ps_ret (pe_op op_catT (pe_tup (pa_cons pe_str pa_nil)) (pe_callTy call_tuple_of (by rfl) T.m_tuple (by decide +kernel) (pa_cons (pv 1) pa_nil)))))))), ?_⟩
    refine Rd.start (σ' := [some (.ref d), none, none, none, none]) rfl ?_
    try dsimp only [cxOf, Cx.nox, Cx.wish]
    walk_at "go"
    refine Rd.new (by simp) fun D nD => ?_
    walk_at "go"
    refine draw_go (S1.new nD) (by omega) (by omega) fun n1 H2 n10 n11 S2 B2 => ?_
    have hD2 : H2 D = some (.lst []) := B2 _ _ ((S1.new (o := .lst []) nD).ne upd_same) upd_same
    walk_at "go"
    refine Rd.rngGo (by omega) (fun i σ' H' => ∃ x1 x2 x3 vs gs, σ' = [some (.ref d), some (.ref D), x1, x2, x3] ∧ H' D = some (.lst vs) ∧ vs.length = i ∧ gs.length = vs.length ∧ (∀ (j : Nat) x g, vs[j]? = some x → gs[j]? = some g → Ex H' 5 true x g) ∧ DrawS H' d cc ∧ But d H H')
      ⟨none, none, none, [], [], rfl, hD2, rfl, rfl, fun j x g hx => by simp at hx, S2, (But.new nD).trans B2⟩ (fun i σ' H' hi h => ?_) (fun σ' H' h => ?_) (by omega)
    · obtain ⟨x1, x2, x3, vs, gs, rfl, hD, lv, lg, hT, S3, B3⟩ := h
      have nDc : cc ≠ D := S1.neC nD
      walk_at "go"
      refine wpart_go S3 fun p b g H4 hp hb S4 B4 => ?_
      have hD4 := B4 _ _ (S3.ne hD) hD
      have hT4 : ∀ (j : Nat) x g, vs[j]? = some x → gs[j]? = some g → Ex H4 5 true x g := fun j x g hx hg => (hT j x g hx hg).sub (TupSub.but S3 B4)
      walk_at "go"
      refine draw_go S4 (by omega) (by omega) fun kd H5 k0 k1 S5 B5 => ?_
      have hp5 := B5 _ _ (S4.neT hp) hp
      have hb5 := hb.sub (TupSub.but S4 B5)
      have hD5 := B5 _ _ (S4.ne hD4) hD4
      have hT5 : ∀ (j : Nat) x g, vs[j]? = some x → gs[j]? = some g → Ex H5 5 true x g := fun j x g hx hg => (hT4 j x g hx hg).sub (TupSub.but S4 B5)
      have B15 := (B3.trans B4).trans B5
      by_cases c0 : kd = 0
      · walk_at "go"
        refine wpart_go S5 fun p2 b2 g2 H6 hp2 hb2 S6 B6 => ?_
        walk_at "go"
        have hp6 := B6 _ _ (S5.neT hp5) hp5
        have hD6' := B6 _ _ (S5.ne hD5) hD5
        refine Rd.new (by simp) fun p3 np3 => ?_
        walk_at "go"
        refine Rd.app (keep np3 hD6') (by omega) ?_
        walk_at "go"
        have ex : Ex H6 2 true (.ref p) (dWave g) := .qwave (n := 1) hp6 (hb5.sub (TupSub.but S5 B6))
        have ex2 : Ex H6 2 true (.ref p2) (dWave g2) := .qwave (n := 1) hp2 hb2
        refine ⟨_, _, _, _, gs ++ [_], rfl, upd_same, by rw [List.length_append, List.length_singleton, lv], by rw [List.length_append, List.length_append, lg]; rfl, ExAll.app (keep np3 hD6') lg (fun j x g hx hg => ((hT5 j x g hx hg).sub (TupSub.but S5 B6)).sub (TupSub.same (Same.put np3))) ((Ex.qprod (n := 2) upd_same (ex.sub (TupSub.same (Same.put np3))) (ex2.sub (TupSub.same (Same.put np3))) ⟨by decide, by decide⟩).up.up), (S6.new np3).putL (keep np3 hD6') nDc, ?_⟩
        exact But.mut ((B15.trans B6).trans (But.new np3)) nD
      by_cases c1 : kd = 1
      · walk_at "go"
        refine draw_go S5 (by omega) (by omega) fun z H6 z0 z1 S6 B6 => ?_
        walk_at "go"
        have hp6 := B6 _ _ (S5.neT hp5) hp5
        have hD6' := B6 _ _ (S5.ne hD5) hD5
        refine Rd.new (by simp) fun p3 np3 => ?_
        walk_at "go"
        refine Rd.app (keep np3 hD6') (by omega) ?_
        walk_at "go"
        have ex : Ex H6 2 true (.ref p) (dWave g) := .qwave (n := 1) hp6 (hb5.sub (TupSub.but S5 B6))
        refine ⟨_, _, _, _, gs ++ [_], rfl, upd_same, by rw [List.length_append, List.length_singleton, lv], by rw [List.length_append, List.length_append, lg]; rfl, ExAll.app (keep np3 hD6') lg (fun j x g hx hg => ((hT5 j x g hx hg).sub (TupSub.but S5 B6)).sub (TupSub.same (Same.put np3))) ((Ex.qshare (n := 2) upd_same (ex.sub (TupSub.same (Same.put np3))) ⟨by omega, by omega⟩ ⟨by decide, by decide⟩).up.up), (S6.new np3).putL (keep np3 hD6') nDc, ?_⟩
        exact But.mut ((B15.trans B6).trans (But.new np3)) nD
      by_cases c2 : kd = 2
      · walk_at "go"
        refine wpart_go S5 fun p2 b2 g2 H6 hp2 hb2 S6 B6 => ?_
        walk_at "go"
        refine draw_go S6 (by omega) (by omega) fun z H7 z0 z1 S7 B7 => ?_
        have hp27 := B7 _ _ (S6.neT hp2) hp2
        have hb27 := hb2.sub (TupSub.but S6 B7)
        have hb7 := (hb5.sub (TupSub.but S5 B6)).sub (TupSub.but S6 B7)
        have hD7 := B7 _ _ (S6.ne (B6 _ _ (S5.ne hD5) hD5)) (B6 _ _ (S5.ne hD5) hD5)
        walk_at "go"
        refine Rd.new (by simp) fun p3 np3 => ?_
        walk_at "go"
        refine Rd.new (by simp) fun p4 np4 => ?_
        walk_at "go"
        refine Rd.new (by simp) fun p5 np5 => ?_
        walk_at "go"
        have hD8 := keep (o := .tup [.str "wave", .ref p4]) np5 (keep (o := .tup [.str "moved", b, .ref p3]) np4 (keep (o := .tup [.str "share", .ref p2, .int z, .int 1000000]) np3 hD7))
        refine Rd.app hD8 (by omega) ?_
        walk_at "go"
        have SS : Same H7 (upd (upd (upd H7 p3 (.tup [.str "share", .ref p2, .int z, .int 1000000])) p4 (.tup [.str "moved", b, .ref p3])) p5 (.tup [.str "wave", .ref p4])) := ((Same.put np3).trans (Same.put np4)).trans (Same.put np5)
        have ex2 : Ex H7 2 true (.ref p2) (dWave g2) := .qwave (n := 1) hp27 hb27
        have e3 : Ex (upd (upd (upd H7 p3 (.tup [.str "share", .ref p2, .int z, .int 1000000])) p4 (.tup [.str "moved", b, .ref p3])) p5 (.tup [.str "wave", .ref p4])) 3 true (.ref p3) (dShare (dWave g2) z 1000000) := .qshare (n := 2) (keep np5 (keep np4 upd_same)) (ex2.sub (TupSub.same SS)) ⟨by omega, by omega⟩ ⟨by decide, by decide⟩
        have e4 : Ex (upd (upd (upd H7 p3 (.tup [.str "share", .ref p2, .int z, .int 1000000])) p4 (.tup [.str "moved", b, .ref p3])) p5 (.tup [.str "wave", .ref p4])) 4 false (.ref p4) (dMoved g (dShare (dWave g2) z 1000000)) := .amoved (n := 3) (keep np5 upd_same) (hb7.up.up.sub (TupSub.same SS)) e3
        refine ⟨_, _, _, _, gs ++ [_], rfl, upd_same, by rw [List.length_append, List.length_singleton, lv], by rw [List.length_append, List.length_append, lg]; rfl, ExAll.app hD8 lg (fun j x g hx hg => (((hT5 j x g hx hg).sub (TupSub.but S5 B6)).sub (TupSub.but S6 B7)).sub (TupSub.same SS)) (.qwave (n := 4) upd_same e4), (((S7.new np3).new np4).new np5).putL hD8 nDc, ?_⟩
        exact But.mut (((((B15.trans B6).trans B7).trans (But.new np3)).trans (But.new np4)).trans (But.new np5)) nD
      · walk_at "go"
        refine Rd.app hD5 (by omega) ?_
        walk_at "go"
        have ex : Ex H5 2 true (.ref p) (dWave g) := .qwave (n := 1) hp5 hb5
        refine ⟨_, _, _, _, gs ++ [_], rfl, upd_same, by rw [List.length_append, List.length_singleton, lv], by rw [List.length_append, List.length_append, lg]; rfl, ExAll.app hD5 lg hT5 ex.up.up.up, S5.putL hD5 nDc, But.mut B15 nD⟩
    · obtain ⟨x1, x2, x3, vs, gs, rfl, hD, lv, lg, hT, S3, B3⟩ := h
      have nDc : cc ≠ D := S1.neC nD
      walk_at "go"
      refine draw_go S3 (by omega) (by omega) fun z H4 z0 z1 S4 B4 => ?_
      walk_at "go"
      refine pickI [0, 0, 1, -1, z - 1000000] (-1000000) 1000000 S4 rfl (by simp) (by simp) (by intro k hk; simp at hk; omega) fun y H5 _ y0 y1 S5 B5 => ?_
      have hD5 := B5 _ _ (S4.ne (B4 _ _ (S3.ne hD) hD)) (B4 _ _ (S3.ne hD) hD)
      have hT5 : ∀ (j : Nat) x g, vs[j]? = some x → gs[j]? = some g → Ex H5 5 true x g := fun j x g hx hg => ((hT j x g hx hg).sub (TupSub.but S3 B4)).sub (TupSub.but S4 B5)
      walk_at "go"
      refine Rd.new (by simp) fun p np => ?_
      walk_at "go"
      refine Rd.app (keep np hD5) (by omega) ?_
      have hT6 := ExAll.app (v := .ref p) (g := dNum y) (keep (o := .tup [.str "number", .int y]) np hD5) lg (fun j x g hx hg => (hT5 j x g hx hg).sub (TupSub.same (Same.put np))) (Ex.qnum (n := 4) upd_same ⟨by omega, by omega⟩)
      have S6 := (S5.new (o := .tup [.str "number", .int y]) np).putL (ys := vs ++ [.ref p]) (keep np hD5) nDc
      have B6 := But.mut (o := .lst (vs ++ [.ref p])) (((B3.trans B4).trans B5).trans (But.new (o := .tup [.str "number", .int y]) np)) nD
      generalize hH6 : upd (upd H5 p (.tup [.str "number", .int y])) D (.lst (vs ++ [.ref p])) = H6 at *
      have hD6 : H6 D = some (.lst (vs ++ [.ref p])) := by rw [← hH6]; exact upd_same
      walk_at "go"
      refine Rd.new (by simp) fun p6 np6 => ?_
      walk_at "go"
      refine Rd.tupL (SqL.of (keep np6 hD6)) fun p7 np7 => ?_
      walk_at "go"
      obtain ⟨y0', ys, ey⟩ : ∃ y ys, vs ++ [.ref p] = y :: ys := by
        cases vs with
        | nil => exact ⟨_, _, rfl⟩
        | cons a r => exact ⟨_, _, rfl⟩
      rw [ey] at hT6 ⊢
      have ll : ys.length + 1 = vs.length + 1 := by
        have := congrArg List.length ey
        simpa using this.symm
      refine Rd.catT (xs := []) (SqT.of (keep np7 upd_same)) (SqT.of upd_same) (by simp; omega) fun p8 np8 => ?_
      refine q _ _ _ (.qsum (n := 5) (xs := y0' :: ys) (gs := gs ++ [dNum y]) upd_same ?_ ?_ ?_ fun j x g hx hg => ?_) (((S6.new np6).new np7).new np8) (((B6.trans (But.new np6)).trans (But.new np7)).trans (But.new np8))
      · rw [List.length_cons, List.length_append, List.length_singleton]; omega
      · rw [List.length_cons]; omega
      · rw [List.length_cons]; omega
      · exact (hT6 j x g hx hg).sub (TupSub.same (((Same.put np6).trans (Same.put np7)).trans (Same.put np8)))
end

theorem Ex.upTo {H : Hp} {n : Nat} {k : Bool} {v : V} {D : Den} (h : Ex H n k v D) : ∀ {m : Nat}, n ≤ m → Ex H m k v D := by
  intro m hm
  induction hm with
  | refl => exact h
  | step _ ih => exact ih.up
theorem DrawS.same {H H' : Hp} {d c : Addr} (S : DrawS H d c) (s : Same H H') : DrawS H' d c := by
  obtain ⟨a, l, m, cs, h1, h2, r⟩ := S
  exact ⟨a, l, m, cs, s _ _ h1, s _ _ h2, r⟩

section
open Rd
variable {P : Program} {w : World} {K : PySem.W.Frag} {mg : Str → Option Value} {base : Heap}
def spChg (n : Nat) : Sp := fun vs H Q _ => ∃ (v : V) (s e : Int) (D : Den), vs = [v, .int s, .int e] ∧ Ex H n true v D ∧ n ≤ 12 ∧ s ≤ e ∧ e - s ≤ 900 ∧ -4000000000 ≤ s ∧ e ≤ 4000000000 ∧ ∀ H' l, Same H H' → H l = none → TL H' l (chg D.val s (e - s).toNat) → Q (.ref l) H'
theorem chg_go {n : Nat} {H : Hp} {v : V} {s e : Int} {D : Den} {Q : VK} {E : XK} (hv : Ex H n true v D) (hn : n ≤ 12) (h : s ≤ e) (h2 : e - s ≤ 900) (h3 : -4000000000 ≤ s) (h4 : e ≤ 4000000000) (q : ∀ H' l, Same H H' → H l = none → TL H' l (chg D.val s (e - s).toNat) → Q (.ref l) H') : CALL (spChg n) [v, .int s, .int e] H Q E := ⟨v, s, e, D, rfl, hv, hn, h, h2, h3, h4, q⟩
set_option maxHeartbeats 16000000 in
theorem ok_chg (T : Txt K mg) (n lv : Nat) (Va : ∃ (f : Addr) (fd : FuncData), FnOk P w K mg base CX0 lv f fd ["q", "t"] (spVal n true) ∧ mg "_law_value" = some (.ref f) ∧ PySem.W.keepIn K (.ref f) = true ∧ L2.Binds K fd ["q", "t"] []) :
    ∃ (f : Addr) (fd : FuncData), FnOk P w K mg base CX0 (lv + 1) f fd ["q", "start", "end"] (spChg n) ∧ mg "_law_changes" = some (.ref f) ∧ PySem.W.keepIn K (.ref f) = true ∧ L2.Binds K fd ["q", "start", "end"] [] := by
  obtain ⟨f, fd, F, g, bi⟩ := T.d__law_changes
  obtain ⟨f__law_value, fd__law_value, G__law_value, g__law_value, kp__law_value, b__law_value⟩ := Va
  refine ⟨f, fd, ?_, g, F.kp, bi⟩
  refine F.ok sc__law_changes (fun vs H Q E h => ?_) (fun cdv A outer s H vs Q E hr h => ?_)
  · obtain ⟨v, s, e, D, rfl, _⟩ := h; rfl
  · obtain ⟨v, s, e, D, rfl, hv, hn, hse, hd, hb1, hb2, q⟩ := h
    refine ⟨_, (pss_cons (ps_set (i := 3) sc__law_changes.nd rfl (by first | exact Or.inl rfl | exact Or.inr rfl) (pe_lst pa_nil))
      (pss_cons (ps_set (i := 4) sc__law_changes.nd rfl (by first | exact Or.inl rfl | exact Or.inr rfl) (pe_cmpR op_ge (pe_call G__law_value (hr.mono (by omega)) (by rfl) g__law_value kp__law_value b__law_value .nil pass0 (pa_cons (pv 0) (pa_cons (pv 1) pa_nil))) pe_int (nomark _)))
      (pss_cons (ps_for PassesOwn.never rfl (pi_range2 (by rfl) T.m_range (pa_cons (pe_op op_add (pv 1) pe_int) (pa_cons (pe_op op_add (pv 2) pe_int) pa_nil))) (pg_name (i := 5) sc__law_changes.nd rfl (by first | exact Or.inl rfl | exact Or.inr rfl)) (pss_cons (ps_set (i := 6) sc__law_changes.nd rfl (by first | exact Or.inl rfl | exact Or.inr rfl) (pe_cmpR op_ge (pe_call G__law_value (hr.mono (by omega)) (by rfl) g__law_value kp__law_value b__law_value .nil pass0 (pa_cons (pv 0) (pa_cons (pv 5) pa_nil))) pe_int (nomark _)))
      (pss_cons (ps_if (pt_cmpR op_ne (pv 6) (pv 4) (nomark _)) (pss_one (ps_expr (pe_bm PySem.F.plainAttrs_list PySem.F.slot_list_append PySem.F.type_list_append mt_append (pv 3) (pa_cons (pe_tup (pa_cons (pv 5) (pa_cons (pe_ifExp (pt_val (pv 6)) pe_str pe_str) pa_nil))) pa_nil)))) pss_nil)
      (pss_one (ps_set (i := 4) sc__law_changes.nd rfl (by first | exact Or.inl rfl | exact Or.inr rfl) (pv 6))))))
      (pss_one (ps_ret (pv 3)))))), ?_⟩
    refine Rd.start (σ' := [some v, some (.int s), some (.int e), none, none, none, none]) rfl ?_
    try dsimp only [cxOf, Cx.nox, Cx.wish]
    walk_at "go"
    refine Rd.new (by simp) fun fp nf => ?_
    walk_at "go"
    refine val_go (hv.sub (TupSub.same (Same.put nf))) hn fun H1 s1 => ?_
    walk_at "go"
    rw [show decide (0 ≤ D.val s) = upB D.val s from rfl]
    have e0 : s + ((0 : Nat) : Int) = s := by omega
    refine Rd.rng2Go ⟨by omega, by omega, by omega, by omega⟩ (fun i σ' H' => ∃ x1 x2, σ' = [some v, some (.int s), some (.int e), some (.ref fp), some (.bl (upB D.val (s + i))), x1, x2] ∧ Same H H' ∧ TL H' fp (chg D.val s i))
      ⟨none, none, by rw [e0], (Same.put nf).trans s1, ⟨[], s1 _ _ upd_same, trivial⟩⟩ (fun i σ' H' hi h => ?_) (fun σ' H' h => ?_)
    · obtain ⟨x1, x2, rfl, sm, hT⟩ := h
      have et : s + 1 + (i : Int) = s + ((i + 1 : Nat) : Int) := by omega
      rw [et] at hi ⊢
      have hcl := chg_len D.val s i
      walk_at "go"
      refine val_go (hv.sub (TupSub.same sm)) hn fun H2 s2 => ?_
      obtain ⟨qs, hfp, hrows⟩ := hT.same s2
      have hq : qs.length = (chg D.val s i).length := hrows.len
      walk_at "go"
      rw [show decide (0 ≤ D.val (s + ((i + 1 : Nat) : Int))) = upB D.val (s + ((i + 1 : Nat) : Int)) from rfl]
      by_cases u : upB D.val (s + ((i + 1 : Nat) : Int)) = upB D.val (s + i)
      · walk_at "go"
        refine ⟨_, _, rfl, sm.trans s2, ?_⟩
        rw [chg, if_neg (fun z => z u), List.append_nil]
        exact ⟨qs, hfp, hrows⟩
      · walk_at "go"
        have hch : chg D.val s (i + 1) = chg D.val s i ++ [chRow D.val (s + ((i + 1 : Nat) : Int))] := by rw [chg, if_pos u]
        cases b : upB D.val (s + ((i + 1 : Nat) : Int)) with
        | true =>
          rw [b] at u
          walk_at "go"
          refine Rd.new (by simp) fun p2 np2 => ?_
          walk_at "go"
          refine Rd.app (keep np2 hfp) (by rw [List.length_map]; omega) ?_
          walk_at "go"
          have rr := TL.app (keep np2 hfp) (hrows.sub (TupSub.same (Same.put np2))) (upd_same (H := H2) (a := p2) (o := .tup [.int (s + ((i + 1 : Nat) : Int)), .str "up"]))
          refine ⟨_, _, rfl, Same.mut ((sm.trans s2).trans (Same.put np2)) nf, ?_⟩
          rw [hch]
          unfold chRow
          rw [b]
          exact rr
        | false =>
          rw [b] at u
          walk_at "go"
          refine Rd.new (by simp) fun p2 np2 => ?_
          walk_at "go"
          refine Rd.app (keep np2 hfp) (by rw [List.length_map]; omega) ?_
          walk_at "go"
          have rr := TL.app (keep np2 hfp) (hrows.sub (TupSub.same (Same.put np2))) (upd_same (H := H2) (a := p2) (o := .tup [.int (s + ((i + 1 : Nat) : Int)), .str "down"]))
          refine ⟨_, _, rfl, Same.mut ((sm.trans s2).trans (Same.put np2)) nf, ?_⟩
          rw [hch]
          unfold chRow
          rw [b]
          exact rr
    · obtain ⟨x1, x2, rfl, sm, hT⟩ := h
      rw [show (e + 1 - (s + 1)).toNat = (e - s).toNat by congr 1; omega] at hT
      walk_at "go"
      exact q _ fp sm nf hT
def spLSure (n : Nat) : Sp := fun vs H Q _ => ∃ (v : V) (t k : Int) (D : Den), vs = [v, .int t, .int k] ∧ Ex H n true v D ∧ n ≤ 12 ∧ 0 ≤ k ∧ ∀ H', Same H H' → Q (.bl (sureB D (t, k))) H'
theorem lsure_go {n : Nat} {H : Hp} {v : V} {t k : Int} {D : Den} {Q : VK} {E : XK} (hv : Ex H n true v D) (hn : n ≤ 12) (h : 0 ≤ k) (q : ∀ H', Same H H' → Q (.bl (sureB D (t, k))) H') : CALL (spLSure n) [v, .int t, .int k] H Q E := ⟨v, t, k, D, rfl, hv, hn, h, q⟩
set_option maxHeartbeats 8000000 in
theorem ok_lsure (T : Txt K mg) (n lv : Nat) (R : ∃ (f : Addr) (fd : FuncData), FnOk P w K mg base CX0 lv f fd ["q", "k"] (spFar n true) ∧ mg "_law_reach" = some (.ref f) ∧ PySem.W.keepIn K (.ref f) = true ∧ L2.Binds K fd ["q", "k"] [])
    (Va : ∃ (f : Addr) (fd : FuncData), FnOk P w K mg base CX0 lv f fd ["q", "t"] (spVal n true) ∧ mg "_law_value" = some (.ref f) ∧ PySem.W.keepIn K (.ref f) = true ∧ L2.Binds K fd ["q", "t"] []) :
    ∃ (f : Addr) (fd : FuncData), FnOk P w K mg base CX0 (lv + 1) f fd ["q", "t", "k"] (spLSure n) ∧ mg "_law_sure" = some (.ref f) ∧ PySem.W.keepIn K (.ref f) = true ∧ L2.Binds K fd ["q", "t", "k"] [] := by
  obtain ⟨f, fd, F, g, bi⟩ := T.d__law_sure
  obtain ⟨f__law_reach, fd__law_reach, G__law_reach, g__law_reach, kp__law_reach, b__law_reach⟩ := R
  obtain ⟨f__law_value, fd__law_value, G__law_value, g__law_value, kp__law_value, b__law_value⟩ := Va
  refine ⟨f, fd, ?_, g, F.kp, bi⟩
  refine F.ok sc__law_sure (fun vs H Q E h => ?_) (fun cdv A outer s H vs Q E hr h => ?_)
  · obtain ⟨v, t, k, D, rfl, _⟩ := h; rfl
  · obtain ⟨v, t, k, D, rfl, hv, hn, h0, q⟩ := h
    refine ⟨_, (pss_cons (ps_set (i := 3) sc__law_sure.nd rfl (by first | exact Or.inl rfl | exact Or.inr rfl) (pe_call G__law_value (hr.mono (by omega)) (by rfl) g__law_value kp__law_value b__law_value .nil pass0 (pa_cons (pv 0) (pa_cons (pv 1) pa_nil))))
      (pss_one (ps_ret (pe_ifExp (pt_cmpR op_ge (pv 3) pe_int (nomark _)) (pe_cmpR op_le (pe_call G__law_reach (hr.mono (by omega)) (by rfl) g__law_reach kp__law_reach b__law_reach .nil pass0 (pa_cons (pv 0) (pa_cons (pv 2) pa_nil))) (pv 3) (nomark _)) (pe_cmpR op_lt (pe_call G__law_reach (hr.mono (by omega)) (by rfl) g__law_reach kp__law_reach b__law_reach .nil pass0 (pa_cons (pv 0) (pa_cons (pv 2) pa_nil))) (pe_un un_neg (pv 3)) (nomark _)))))), ?_⟩
    refine Rd.start (σ' := [some v, some (.int t), some (.int k), none]) rfl ?_
    try dsimp only [cxOf, Cx.nox, Cx.wish]
    walk_at "go"
    refine val_go hv hn fun H1 s1 => ?_
    unfold sureB at q
    by_cases w0 : 0 ≤ D.val t
    · simp only [if_pos w0] at q
      walk_at "go"
      refine far_go (hv.sub (TupSub.same s1)) hn h0 fun H2 s2 => ?_
      walk_at "go"
      exact q _ (s1.trans s2)
    · simp only [if_neg w0] at q
      walk_at "go"
      refine far_go (hv.sub (TupSub.same s1)) hn h0 fun H2 s2 => ?_
      walk_at "go"
      exact q _ (s1.trans s2)
def spCells (n : Nat) : Sp := fun vs H Q _ => ∃ (d cc : Addr) (v : V) (s e : Int) (D : Den), vs = [.ref d, v, .int s, .int e] ∧ DrawS H d cc ∧ Ex H n true v D ∧ n ≤ 12 ∧ s ≤ e ∧ e - s ≤ 200 ∧ ∀ H' l (cs : List (Int × Int)), DrawS H' d cc → But d H H' → cc ≠ l → TL H' l (cs.map cRow) → 0 < cs.length → cs.length ≤ 201 → Q (.ref l) H'
theorem cells_go {n : Nat} {H : Hp} {d cc : Addr} {v : V} {s e : Int} {D : Den} {Q : VK} {E : XK} (S : DrawS H d cc) (hv : Ex H n true v D) (hn : n ≤ 12) (h : s ≤ e) (h2 : e - s ≤ 200) (q : ∀ H' l (cs : List (Int × Int)), DrawS H' d cc → But d H H' → cc ≠ l → TL H' l (cs.map cRow) → 0 < cs.length → cs.length ≤ 201 → Q (.ref l) H') : CALL (spCells n) [.ref d, v, .int s, .int e] H Q E := ⟨d, cc, v, s, e, D, rfl, S, hv, hn, h, h2, q⟩
set_option maxHeartbeats 16000000 in
theorem ok_cells (T : Txt K mg) (n lv : Nat) (hlv : 2 ≤ lv) (Sr : ∃ (f : Addr) (fd : FuncData), FnOk P w K mg base CX0 lv f fd ["q", "t", "k"] (spLSure n) ∧ mg "_law_sure" = some (.ref f) ∧ PySem.W.keepIn K (.ref f) = true ∧ L2.Binds K fd ["q", "t", "k"] []) :
    ∃ (f : Addr) (fd : FuncData), FnOk P w K mg base CX0 (lv + 1) f fd ["state", "q", "start", "end"] (spCells n) ∧ mg "_law_cells" = some (.ref f) ∧ PySem.W.keepIn K (.ref f) = true ∧ L2.Binds K fd ["state", "q", "start", "end"] [] := by
  obtain ⟨f, fd, F, g, bi⟩ := T.d__law_cells
  obtain ⟨f__law_sure, fd__law_sure, G__law_sure, g__law_sure, kp__law_sure, b__law_sure⟩ := Sr
  obtain ⟨f__law_pick, fd__law_pick, G__law_pick, g__law_pick, kp__law_pick, b__law_pick⟩ := ok_pick (P := P) (w := w) (base := base) T
  refine ⟨f, fd, ?_, g, F.kp, bi⟩
  refine F.ok sc__law_cells (fun vs H Q E h => ?_) (fun cdv A outer s H vs Q E hr h => ?_)
  · obtain ⟨d, cc, v, s, e, D, rfl, _⟩ := h; rfl
  · obtain ⟨d, cc, v, s, e, D, rfl, S, hv, hn, hse, hd, q⟩ := h
    refine ⟨_, (pss_cons (ps_set (i := 4) sc__law_cells.nd rfl (by first | exact Or.inl rfl | exact Or.inr rfl) (pe_lst pa_nil))
      (pss_cons (ps_set (i := 5) sc__law_cells.nd rfl (by first | exact Or.inl rfl | exact Or.inr rfl) (pv 2))
      (pss_cons (ps_for PassesOwn.never rfl (pi_range1 (by rfl) T.m_range (pa_cons (pe_op op_add (pe_op op_sub (pv 3) (pv 2)) pe_int) pa_nil)) (pg_name (i := 6) sc__law_cells.nd rfl (by first | exact Or.inl rfl | exact Or.inr rfl)) (pss_cons (ps_if (pt_cmpR op_gt (pv 5) (pv 3) (nomark _)) (pss_one ps_break) pss_nil)
      (pss_cons (ps_set (i := 7) sc__law_cells.nd rfl (by first | exact Or.inl rfl | exact Or.inr rfl) pe_int)
      (pss_cons (ps_set (i := 8) sc__law_cells.nd rfl (by first | exact Or.inl rfl | exact Or.inr rfl) (pe_callB (call_min2 rfl) (by rfl) T.m_min (by decide +kernel) (pa_cons (pe_op op_sub (pv 3) (pv 5)) (pa_cons (pe_call G__law_pick (hr.mono (by omega)) (by rfl) g__law_pick kp__law_pick b__law_pick .nil pass0 (pa_cons (pv 0) (pa_cons (pe_lst (pa_cons pe_int (pa_cons pe_int (pa_cons pe_int (pa_cons pe_int (pa_cons pe_int pa_nil)))))) pa_nil))) pa_nil))))
      (pss_cons (ps_for PassesOwn.never rfl (pi_range2 (by rfl) T.m_range (pa_cons pe_int (pa_cons (pe_op op_add (pv 8) pe_int) pa_nil))) (pg_name (i := 9) sc__law_cells.nd rfl (by first | exact Or.inl rfl | exact Or.inr rfl)) (pss_one (ps_if (pt_val (pe_call G__law_sure (hr.mono (by omega)) (by rfl) g__law_sure kp__law_sure b__law_sure .nil pass0 (pa_cons (pv 1) (pa_cons (pv 5) (pa_cons (pv 9) pa_nil))))) (pss_one (ps_set (i := 7) sc__law_cells.nd rfl (by first | exact Or.inl rfl | exact Or.inr rfl) (pv 9))) pss_nil)))
      (pss_cons (ps_expr (pe_bm PySem.F.plainAttrs_list PySem.F.slot_list_append PySem.F.type_list_append mt_append (pv 4) (pa_cons (pe_tup (pa_cons (pv 5) (pa_cons (pv 7) pa_nil))) pa_nil)))
      (pss_one (ps_set (i := 5) sc__law_cells.nd rfl (by first | exact Or.inl rfl | exact Or.inr rfl) (pe_op op_add (pe_op op_add (pv 5) (pv 7)) pe_int)))))))))
      (pss_one (ps_ret (pv 4)))))), ?_⟩
    refine Rd.start (σ' := [some (.ref d), some v, some (.int s), some (.int e), none, none, none, none, none, none]) rfl ?_
    try dsimp only [cxOf, Cx.nox, Cx.wish]
    walk_at "go"
    refine Rd.new (by simp) fun l nl => ?_
    have ncl : cc ≠ l := S.neC nl
    walk_at "go"
    refine Rd.rngGo (by omega) (fun i σ' H' => ∃ (t : Int) (x1 x2 x3 x4 : Option V) (cs : List (Int × Int)), σ' = [some (.ref d), some v, some (.int s), some (.int e), some (.ref l), some (.int t), x1, x2, x3, x4] ∧ DrawS H' d cc ∧ But d H H' ∧ TL H' l (cs.map cRow) ∧ cs.length ≤ i ∧ (i = 0 → t = s) ∧ (0 < i → 0 < cs.length))
      ⟨s, none, none, none, none, [], rfl, S.new nl, But.new nl, ⟨[], upd_same, trivial⟩, Nat.le_refl _, fun _ => rfl, fun z => absurd z (by omega)⟩ (fun i σ' H' hi h => ?_) (fun σ' H' h => ?_) (by omega)
    · obtain ⟨t, x1, x2, x3, x4, cs, rfl, S1, B1, hT, hcl, ht0, hpos⟩ := h
      by_cases te : t > e
      · walk_at "go"
        have hi0 : i ≠ 0 := fun z => by
          have := ht0 z
          omega
        have := hpos (by omega)
        exact q _ l cs S1 B1 ncl hT this (by omega)
      · walk_at "go"
        refine pickI [0, 1, 3, 7, 20] 0 20 S1 rfl (by decide) (by decide) (by decide) fun r H2 _ r0 r1 S2 B2 => ?_
        have hv2 := hv.sub (TupSub.but S (B1.trans B2))
        have hT2 := hT.but S1 B2
        walk_at "go"
        have room0 : 0 ≤ (if r < e - t then r else e - t) := by split <;> omega
        have room1 : (if r < e - t then r else e - t) ≤ 20 := by split <;> omega
        generalize (if r < e - t then r else e - t) = room at *
        refine Rd.rng2Go ⟨by omega, by omega, by omega, by omega⟩ (fun j σ' H' => ∃ k x1, σ' = [some (.ref d), some v, some (.int s), some (.int e), some (.ref l), some (.int t), some (.int i), some (.int k), some (.int room), x1] ∧ Same H2 H')
          ⟨0, _, rfl, Same.refl _⟩ (fun j σ' H' hj h => ?_) (fun σ' H' h => ?_)
        · obtain ⟨k, x1, rfl, sm⟩ := h
          walk_at "go"
          refine lsure_go (hv2.sub (TupSub.same sm)) hn (by omega) fun H3 s3 => ?_
          walk_at "go"
          cases b : sureB D (t, 1 + (j : Int)) with
          | true =>
            walk_at "go"
            exact ⟨_, _, rfl, sm.trans s3⟩
          | false =>
            walk_at "go"
            exact ⟨_, _, rfl, sm.trans s3⟩
        · obtain ⟨k, x1, rfl, sm⟩ := h
          obtain ⟨qs, hl3, hrows⟩ := hT2.same sm
          have hq : qs.length = (cs.map cRow).length := hrows.len
          rw [List.length_map] at hq
          walk_at "go"
          refine Rd.new (by simp) fun p2 np2 => ?_
          walk_at "go"
          refine Rd.app (keep np2 hl3) (by rw [List.length_map]; omega) ?_
          walk_at "go"
          have rr := TL.app (keep np2 hl3) (hrows.sub (TupSub.same (Same.put np2))) (upd_same (H := H') (a := p2) (o := .tup [.int t, .int k]))
          refine ⟨_, _, _, _, _, cs ++ [(t, k)], rfl, ((S2.same sm).new np2).putL (keep np2 hl3) ncl, ?_, ?_, by rw [List.length_append, List.length_singleton]; omega, fun z => by omega, fun _ => by rw [List.length_append, List.length_singleton]; omega⟩
          · exact But.mut (((B1.trans B2).trans (But.of sm)).trans (But.new np2)) nl
          · rw [List.map_append]
            exact rr
    · obtain ⟨t, x1, x2, x3, x4, cs, rfl, S1, B1, hT, hcl, ht0, hpos⟩ := h
      have hp := hpos (by omega)
      walk_at "go"
      exact q _ l cs S1 B1 ncl hT hp (by omega)
end

section
open Rd
variable {P : Program} {w : World} {K : PySem.W.Frag} {mg : Str → Option Value} {base : Heap}
theorem ixN_of {n : Nat} {i : Int} (h : 0 ≤ i) (h2 : i < n) : ixN n i = some i.toNat := by
  unfold ixN
  rw [if_pos h, if_pos h2]
theorem seqIx_of {n : Nat} {i : Int} (h : 0 ≤ i) (h2 : i < n) : seqIndex? i n = some i.toNat := by
  unfold seqIndex?
  rw [if_neg (show ¬ i < 0 by omega)]
  simp [h, h2]
theorem map_erase {α β : Type} (f : α → β) : ∀ (xs : List α) (i : Nat), (xs.map f).eraseIdx i = (xs.eraseIdx i).map f
  | [], _ => rfl
  | _ :: _, 0 => rfl
  | x :: xs, i + 1 => by
    show f x :: (xs.map f).eraseIdx i = f x :: (xs.eraseIdx i).map f
    rw [map_erase f xs i]
theorem Rows.at {H : Hp} {ps : List Addr} {cs : List (Int × Int)} {n : Int} (h : Rows H ps (cs.map cRow)) (h0 : 0 ≤ n) (h1 : n < cs.length) : ∃ (p : Addr) (c : Int × Int), atI (ps.map V.ref) n = some (.ref p) ∧ ps[n.toNat]? = some p ∧ cs[n.toNat]? = some c ∧ H p = some (.tup [.int c.1, .int c.2]) := by
  have hi : n.toNat < cs.length := by omega
  obtain ⟨p, e1, e2⟩ := h.get (i := n.toNat) (r := cRow cs[n.toNat]) (by rw [List.getElem?_map, List.getElem?_eq_getElem hi]; rfl)
  refine ⟨p, cs[n.toNat], ?_, e1, List.getElem?_eq_getElem hi, e2⟩
  have e : ((n.toNat : Nat) : Int) = n := by omega
  have z : atI (ps.map V.ref) ((n.toNat : Nat) : Int) = some (.ref p) := atI_nat (by rw [List.getElem?_map, e1]; rfl)
  rw [e] at z
  exact z
theorem Rows.last {H : Hp} {ps : List Addr} {cs : List (Int × Int)} (h : Rows H ps (cs.map cRow)) (h1 : 0 < cs.length) : ∃ (p : Addr) (c : Int × Int), atI (ps.map V.ref) (-1) = some (.ref p) ∧ H p = some (.tup [.int c.1, .int c.2]) := by
  have hl : ps.length = cs.length := by rw [h.len, List.length_map]
  have hi : cs.length - 1 < cs.length := by omega
  obtain ⟨p, e1, e2⟩ := h.get (i := cs.length - 1) (r := cRow cs[cs.length - 1]) (by rw [List.getElem?_map, List.getElem?_eq_getElem hi]; rfl)
  refine ⟨p, cs[cs.length - 1], ?_, e2⟩
  unfold atI ixN
  rw [if_neg (show ¬ (0 : Int) ≤ -1 by omega), if_pos (by rw [List.length_map]; omega)]
  show (ps.map V.ref)[(-1 + ((ps.map V.ref).length : Int)).toNat]? = _
  rw [List.length_map, show (-1 + (ps.length : Int)).toNat = cs.length - 1 by omega, List.getElem?_map, e1]
  rfl
theorem TL.setRow {H : Hp} {l p : Addr} {ps : List Addr} {cs : List (Int × Int)} {j : Nat} {c : Int × Int} (hl : H l = some (.lst (ps.map V.ref))) (h : Rows H ps (cs.map cRow)) (hp : H p = some (.tup [.int c.1, .int c.2])) : TL (upd H l (.lst ((ps.map V.ref).set j (.ref p)))) l ((cs.set j c).map cRow) := by
  refine ⟨ps.set j p, by rw [upd_same, List.map_set], ?_⟩
  have e : (cs.set j c).map cRow = (cs.map cRow).set j [.int c.1, .int c.2] := by rw [List.map_set]; rfl
  rw [e]
  exact Rows.set (TupSub.putL hl _ _ hp) (h.sub (TupSub.putL hl))
theorem TL.eraseRow {H : Hp} {l : Addr} {ps : List Addr} {cs : List (Int × Int)} {j : Nat} (hl : H l = some (.lst (ps.map V.ref))) (h : Rows H ps (cs.map cRow)) : TL (upd H l (.lst ((ps.map V.ref).eraseIdx j))) l ((cs.eraseIdx j).map cRow) := by
  refine ⟨ps.eraseIdx j, by rw [upd_same, map_erase], ?_⟩
  rw [← map_erase]
  exact Rows.erase (h.sub (TupSub.putL hl))
theorem TL.insRow {H : Hp} {l p : Addr} {ps : List Addr} {cs : List (Int × Int)} {j : Nat} {c : Int × Int} (hl : H l = some (.lst (ps.map V.ref))) (h : Rows H ps (cs.map cRow)) (hp : H p = some (.tup [.int c.1, .int c.2])) : TL (upd H l (.lst ((ps.map V.ref).take j ++ [.ref p] ++ (ps.map V.ref).drop j))) l ((cs.take j ++ [c] ++ cs.drop j).map cRow) := by
  refine ⟨ps.take j ++ [p] ++ ps.drop j, by rw [upd_same, List.map_append, List.map_append, List.map_take, List.map_drop]; rfl, ?_⟩
  rw [List.map_append, List.map_append, List.map_take, List.map_drop]
  have h2 := h.sub (TupSub.putL (ys := (ps.map V.ref).take j ++ [.ref p] ++ (ps.map V.ref).drop j) hl)
  exact Rows.append (Rows.append h2.take ⟨TupSub.putL hl _ _ hp, trivial⟩) h2.drop
def spSpoil : Sp := fun vs H Q _ => ∃ (d cc l : Addr) (cs : List (Int × Int)), vs = [.ref d, .ref l] ∧ DrawS H d cc ∧ cc ≠ l ∧ TL H l (cs.map cRow) ∧ 0 < cs.length ∧ cs.length ≤ 700 ∧
  ∀ H' (cs' : List (Int × Int)), DrawS H' d cc → TupSub H H' → TL H' l (cs'.map cRow) → 0 < cs'.length → cs'.length ≤ cs.length + 1 → Q .non H'
theorem spoil_go {H : Hp} {d cc l : Addr} {cs : List (Int × Int)} {Q : VK} {E : XK} (S : DrawS H d cc) (n : cc ≠ l) (t : TL H l (cs.map cRow)) (h0 : 0 < cs.length) (h1 : cs.length ≤ 700) (q : ∀ H' (cs' : List (Int × Int)), DrawS H' d cc → TupSub H H' → TL H' l (cs'.map cRow) → 0 < cs'.length → cs'.length ≤ cs.length + 1 → Q .non H') : CALL spSpoil [.ref d, .ref l] H Q E := ⟨d, cc, l, cs, rfl, S, n, t, h0, h1, q⟩
set_option maxHeartbeats 32000000 in
theorem ok_spoil (T : Txt K mg) : ∃ (f : Addr) (fd : FuncData), FnOk P w K mg base CX0 2 f fd ["state", "cells"] spSpoil ∧ mg "_law_spoil" = some (.ref f) ∧ PySem.W.keepIn K (.ref f) = true ∧ L2.Binds K fd ["state", "cells"] [] := by
  obtain ⟨f, fd, F, g, bi⟩ := T.d__law_spoil
  obtain ⟨f__law_draw, fd__law_draw, G__law_draw, g__law_draw, kp__law_draw, b__law_draw⟩ := ok_draw (P := P) (w := w) (base := base) T
  refine ⟨f, fd, ?_, g, F.kp, bi⟩
  refine F.ok sc__law_spoil (fun vs H Q E h => ?_) (fun cdv A outer s H vs Q E hr h => ?_)
  · obtain ⟨d, cc, l, cs, rfl, _⟩ := h; rfl
  · obtain ⟨d, cc, l, cs, rfl, S, ncl, hT, hpos, hle, q⟩ := h
    refine ⟨_, (pss_cons (ps_set (i := 2) sc__law_spoil.nd rfl (by first | exact Or.inl rfl | exact Or.inr rfl) (pe_call G__law_draw (hr.mono (by omega)) (by rfl) g__law_draw kp__law_draw b__law_draw .nil pass0 (pa_cons (pv 0) (pa_cons (pe_callB call_len_seq (by rfl) T.m_len (by decide +kernel) (pa_cons (pv 1) pa_nil)) pa_nil))))
      (pss_cons (ps_asg (pe_ix ix_list (pv 1) (pv 2) (fun _ _ => rfl)) (pg_tup (by rfl) (pgs_cons (pg_name (i := 3) sc__law_spoil.nd rfl (by first | exact Or.inl rfl | exact Or.inr rfl)) (pgs_cons (pg_name (i := 4) sc__law_spoil.nd rfl (by first | exact Or.inl rfl | exact Or.inr rfl)) pgs_nil))))
      (pss_cons (ps_set (i := 5) sc__law_spoil.nd rfl (by first | exact Or.inl rfl | exact Or.inr rfl) (pe_call G__law_draw (hr.mono (by omega)) (by rfl) g__law_draw kp__law_draw b__law_draw .nil pass0 (pa_cons (pv 0) (pa_cons pe_int pa_nil))))
      (pss_cons (ps_if (pt_cmpR op_eq (pv 5) pe_int (nomark _)) (pss_one (ps_asg (pe_tup (pa_cons (pv 3) (pa_cons (pe_op op_add (pe_op op_add (pv 4) pe_int) (pe_call G__law_draw (hr.mono (by omega)) (by rfl) g__law_draw kp__law_draw b__law_draw .nil pass0 (pa_cons (pv 0) (pa_cons pe_int pa_nil)))) pa_nil))) (pg_sub (pv 1) (pv 2) set_list))) pss_nil)
      (pss_cons (ps_if (pt_cmpR op_eq (pv 5) pe_int (nomark _)) (pss_one (ps_asg (pe_tup (pa_cons (pv 3) (pa_cons (pe_op op_sub (pv 4) pe_int) pa_nil))) (pg_sub (pv 1) (pv 2) set_list))) pss_nil)
      (pss_cons (ps_if (pt_cmpR op_eq (pv 5) pe_int (nomark _)) (pss_one (ps_asg (pe_tup (pa_cons (pe_op op_add (pv 3) pe_int) (pa_cons (pv 4) pa_nil))) (pg_sub (pv 1) (pv 2) set_list))) pss_nil)
      (pss_cons (ps_if (pt_cmpR op_eq (pv 5) pe_int (nomark _)) (pss_one (ps_expr (pe_bm (r := Rd.INS) PySem.F.plainAttrs_list PySem.F.slot_list_insert PySem.F.type_list_insert mt_insert (pv 1) (pa_cons (pv 2) (pa_cons (pe_ix ix_list (pv 1) (pv 2) (fun _ _ => rfl)) pa_nil))))) pss_nil)
      (pss_cons (ps_if (pt_cmpR op_eq (pv 5) pe_int (nomark _)) (pss_one (ps_expr (pe_bm PySem.F.plainAttrs_list PySem.F.slot_list_append PySem.F.type_list_append mt_append (pv 1) (pa_cons (pe_bm PySem.F.plainAttrs_list PySem.F.slot_list_pop PySem.F.type_list_pop mt_popAt (pv 1) (pa_cons (pv 2) pa_nil)) pa_nil)))) pss_nil)
      (pss_cons (ps_if (pt_cmpR op_eq (pv 5) pe_int (nomark _)) (pss_one (ps_expr (pe_bm PySem.F.plainAttrs_list PySem.F.slot_list_append PySem.F.type_list_append mt_append (pv 1) (pa_cons (pe_tup (pa_cons (pe_op op_add (pe_op op_add (pe_ix ix_tup (pe_ix ix_list (pv 1) (pe_un un_neg pe_int) (fun _ _ => rfl)) pe_int (fun _ _ => rfl)) (pe_ix ix_tup (pe_ix ix_list (pv 1) (pe_un un_neg pe_int) (fun _ _ => rfl)) pe_int (fun _ _ => rfl))) pe_int) (pa_cons (pe_call G__law_draw (hr.mono (by omega)) (by rfl) g__law_draw kp__law_draw b__law_draw .nil pass0 (pa_cons (pv 0) (pa_cons pe_int pa_nil))) pa_nil))) pa_nil)))) pss_nil)
      (pss_cons (ps_if (PW.pt (pw_and (pt_cmpR op_eq (pv 5) pe_int (nomark _)) (pw_and1 (pt_cmpR op_lt (pe_op op_add (pv 2) pe_int) (pe_callB call_len_seq (by rfl) T.m_len (by decide +kernel) (pa_cons (pv 1) pa_nil)) (nomark _))))) (pss_cons (ps_set (i := 6) sc__law_spoil.nd rfl (by first | exact Or.inl rfl | exact Or.inr rfl) (pe_bm PySem.F.plainAttrs_list PySem.F.slot_list_pop PySem.F.type_list_pop mt_popAt (pv 1) (pa_cons (pe_op op_add (pv 2) pe_int) pa_nil)))
      (pss_one (ps_asg (pe_tup (pa_cons (pv 3) (pa_cons (pe_op op_add (pe_op op_add (pv 4) (pe_ix ix_tup (pv 6) pe_int (fun _ _ => rfl))) pe_int) pa_nil))) (pg_sub (pv 1) (pv 2) set_list)))) pss_nil)
      (pss_cons (ps_if (PW.pt (pw_and (pt_cmpR op_eq (pv 5) pe_int (nomark _)) (pw_and1 (pt_cmpR op_gt (pe_callB call_len_seq (by rfl) T.m_len (by decide +kernel) (pa_cons (pv 1) pa_nil)) pe_int (nomark _))))) (pss_one (ps_expr (pe_bm PySem.F.plainAttrs_list PySem.F.slot_list_pop PySem.F.type_list_pop mt_popAt (pv 1) (pa_cons (pv 2) pa_nil)))) pss_nil)
      (pss_one (ps_if (pt_cmpR op_eq (pv 5) pe_int (nomark _)) (pss_one (ps_asg (pe_tup (pa_cons (pv 3) (pa_cons (pe_un un_neg pe_int) pa_nil))) (pg_sub (pv 1) (pv 2) set_list))) pss_nil))))))))))))), ?_⟩
    refine Rd.start (σ' := [some (.ref d), some (.ref l), none, none, none, none, none]) rfl ?_
    try dsimp only [cxOf, Cx.nox, Cx.wish]
    obtain ⟨ps0, hl0, hR0⟩ := id hT
    have hlen : ps0.length = cs.length := by rw [hR0.len, List.length_map]
    have hb : 0 < ((ps0.map V.ref).length : Int) ∧ ((ps0.map V.ref).length : Int) < 18446744073709551616 := by rw [List.length_map]; omega
    walk_at "go"
    refine draw_go S hb.1 hb.2 fun n H1 n0 n1 S1 B1 => ?_
    have hl1 := B1 _ _ (S.ne hl0) hl0
    have hR1 := hR0.sub (TupSub.but S B1)
    rw [List.length_map, hlen] at n1
    obtain ⟨p, c, ha, hpn, hcn, hp⟩ := hR1.at n0 n1
    walk_at "go"
    refine draw_go S1 (by omega) (by omega) fun kd H2 k0 k1 S2 B2 => ?_
    have hl := B2 _ _ (S1.ne hl1) hl1
    have hR := hR1.sub (TupSub.but S1 B2)
    have hp2 := B2 _ _ (S1.neT hp) hp
    have sub2 : TupSub H H2 := fun a xs z => TupSub.but S1 B2 _ _ (TupSub.but S B1 _ _ z)
    have il : ixN (ps0.map V.ref).length n = some n.toNat := ixN_of n0 (by rw [List.length_map]; omega)
    have sl : seqIndex? n (ps0.map V.ref).length = some n.toNat := seqIx_of n0 (by rw [List.length_map]; omega)
    have key : ∀ (t k : Int) (H3 : Hp) (p3 : Addr), DrawS H3 d cc → TupSub H H3 → H3 l = some (.lst (ps0.map V.ref)) → Rows H3 ps0 (cs.map cRow) → H3 p3 = some (.tup [.int t, .int k]) → Q .non (upd H3 l (.lst ((ps0.map V.ref).set n.toNat (.ref p3)))) := by
      intro t k H3 p3 S3 sub3 hl3 hR3 hp3
      have r := TL.setRow (j := n.toNat) (c := (t, k)) hl3 hR3 hp3
      exact q _ _ (S3.putL hl3 ncl) (fun a xs z => TupSub.putL hl3 _ _ (sub3 _ _ z)) r (by rw [List.length_set]; exact hpos) (by rw [List.length_set]; omega)
    by_cases c0 : kd = 0
    · walk_at "go"
      refine draw_go S2 (by omega) (by omega) fun z H3 z0 z1 S3 B3 => ?_
      have hl3 := B3 _ _ (S2.ne hl) hl
      have hR3 := hR.sub (TupSub.but S2 B3)
      walk_at "go"
      refine Rd.new (by simp) fun p3 np3 => ?_
      walk_at "go"
      refine Rd.setL (keep np3 hl3) il ?_
      walk_at "go"
      exact key _ _ _ p3 (S3.new np3) (fun a xs z => keep np3 (TupSub.but S2 B3 _ _ (sub2 _ _ z))) (keep np3 hl3) (hR3.sub (TupSub.same (Same.put np3))) upd_same
    by_cases c1 : kd = 1
    · walk_at "go"
      refine Rd.new (by simp) fun p3 np3 => ?_
      walk_at "go"
      refine Rd.setL (keep np3 hl) il ?_
      walk_at "go"
      exact key _ _ _ p3 (S2.new np3) (fun a xs z => keep np3 (sub2 _ _ z)) (keep np3 hl) (hR.sub (TupSub.same (Same.put np3))) upd_same
    by_cases c2 : kd = 2
    · walk_at "go"
      refine Rd.new (by simp) fun p3 np3 => ?_
      walk_at "go"
      refine Rd.setL (keep np3 hl) il ?_
      walk_at "go"
      exact key _ _ _ p3 (S2.new np3) (fun a xs z => keep np3 (sub2 _ _ z)) (keep np3 hl) (hR.sub (TupSub.same (Same.put np3))) upd_same
    by_cases c3 : kd = 3
    · walk_at "go"
      refine Rd.ins hl (by rw [List.length_map]; omega) n0 (by omega) ?_
      walk_at "go"
      have r := TL.insRow (j := n.toNat) hl hR hp2
      exact q _ _ (S2.putL hl ncl) (fun a xs z => TupSub.putL hl _ _ (sub2 _ _ z)) r (by simp; omega) (by simp; omega)
    by_cases c4 : kd = 4
    · walk_at "go"
      refine Rd.popAt hl n0 (by omega) sl (by rw [List.getElem?_map, hpn]; rfl) ?_
      walk_at "go"
      obtain ⟨qs, g1, g2⟩ := TL.eraseRow (j := n.toNat) hl hR
      have el : (cs.eraseIdx n.toNat).length = cs.length - 1 := by rw [List.length_eraseIdx]; rw [if_pos (by omega)]
      have ql : qs.length = (cs.eraseIdx n.toNat).length := by rw [g2.len, List.length_map]
      have hpp := TupSub.putL (ys := (ps0.map V.ref).eraseIdx n.toNat) hl _ _ hp2
      have S3 := S2.putL (ys := (ps0.map V.ref).eraseIdx n.toNat) hl ncl
      have sub3 : TupSub H (upd H2 l (.lst ((ps0.map V.ref).eraseIdx n.toNat))) := fun a xs z => TupSub.putL hl _ _ (sub2 _ _ z)
      generalize upd H2 l (.lst ((ps0.map V.ref).eraseIdx n.toNat)) = H4 at *
      refine Rd.app g1 (by rw [List.length_map]; omega) ?_
      walk_at "go"
      have r := TL.app g1 g2 hpp
      have r2 : TL (upd H4 l (.lst (qs.map V.ref ++ [.ref p]))) l ((cs.eraseIdx n.toNat ++ [c]).map cRow) := by rw [List.map_append]; exact r
      exact q _ _ (S3.putL g1 ncl) (fun a xs z => TupSub.putL g1 _ _ (sub3 _ _ z)) r2 (by rw [List.length_append, List.length_singleton]; omega) (by rw [List.length_append, List.length_singleton]; omega)
    by_cases c5 : kd = 5
    · obtain ⟨pl, cl, al, hpl⟩ := hR.last hpos
      walk_at "go"
      refine draw_go S2 (by omega) (by omega) fun z H3 z0 z1 S3 B3 => ?_
      have hl3 := B3 _ _ (S2.ne hl) hl
      have hR3 := hR.sub (TupSub.but S2 B3)
      walk_at "go"
      refine Rd.new (by simp) fun p3 np3 => ?_
      walk_at "go"
      refine Rd.app (keep np3 hl3) (by rw [List.length_map]; omega) ?_
      walk_at "go"
      have r := TL.app (keep np3 hl3) (hR3.sub (TupSub.same (Same.put np3))) (upd_same (H := H3) (a := p3) (o := .tup [.int (cl.1 + cl.2 + 1), .int z]))
      have r2 : TL (upd (upd H3 p3 (.tup [.int (cl.1 + cl.2 + 1), .int z])) l (.lst (ps0.map V.ref ++ [.ref p3]))) l ((cs ++ [(cl.1 + cl.2 + 1, z)]).map cRow) := by rw [List.map_append]; exact r
      exact q _ _ ((S3.new np3).putL (keep np3 hl3) ncl) (fun a xs z => TupSub.putL (keep np3 hl3) _ _ (keep np3 (TupSub.but S2 B3 _ _ (sub2 _ _ z)))) r2 (by rw [List.length_append, List.length_singleton]; omega) (by rw [List.length_append, List.length_singleton]; omega)
    by_cases c6 : kd = 6
    · by_cases hn : n + 1 < ((ps0.map V.ref).length : Int)
      · have hn' : n + 1 < cs.length := by rw [List.length_map, hlen] at hn; exact hn
        obtain ⟨p6, d6, a6, hp6n, _, hp6⟩ := hR.at (n := n + 1) (by omega) hn'
        have sl6 : seqIndex? (n + 1) (ps0.map V.ref).length = some (n + 1).toNat := seqIx_of (by omega) hn
        walk_at "go"
        refine Rd.popAt hl (by omega) (by omega) sl6 (by rw [List.getElem?_map, hp6n]; rfl) ?_
        walk_at "go"
        obtain ⟨qs, g1, g2⟩ := TL.eraseRow (j := (n + 1).toNat) hl hR
        have el : (cs.eraseIdx (n + 1).toNat).length = cs.length - 1 := by rw [List.length_eraseIdx]; rw [if_pos (by omega)]
        have ql : qs.length = (cs.eraseIdx (n + 1).toNat).length := by rw [g2.len, List.length_map]
        have hpp := TupSub.putL (ys := (ps0.map V.ref).eraseIdx (n + 1).toNat) hl _ _ hp6
        have S3 := S2.putL (ys := (ps0.map V.ref).eraseIdx (n + 1).toNat) hl ncl
        have sub3 : TupSub H (upd H2 l (.lst ((ps0.map V.ref).eraseIdx (n + 1).toNat))) := fun a xs z => TupSub.putL hl _ _ (sub2 _ _ z)
        generalize upd H2 l (.lst ((ps0.map V.ref).eraseIdx (n + 1).toNat)) = H4 at *
        walk_at "go"
        refine Rd.new (by simp) fun p7 np7 => ?_
        walk_at "go"
        have il2 : ixN (qs.map V.ref).length n = some n.toNat := ixN_of n0 (by rw [List.length_map]; omega)
        refine Rd.setL (keep np7 g1) il2 ?_
        walk_at "go"
        have r := TL.setRow (j := n.toNat) (c := (c.1, c.2 + d6.2 + 1)) (keep (o := .tup [.int c.1, .int (c.2 + d6.2 + 1)]) np7 g1) (g2.sub (TupSub.same (Same.put np7))) upd_same
        exact q _ _ ((S3.new np7).putL (keep np7 g1) ncl) (fun a xs z => TupSub.putL (keep np7 g1) _ _ (keep np7 (sub3 _ _ z))) r (by rw [List.length_set]; omega) (by rw [List.length_set]; omega)
      · walk_at "go"
        exact q _ _ S2 sub2 ⟨ps0, hl, hR⟩ hpos (by omega)
    by_cases c7 : kd = 7
    · by_cases hn : ((ps0.map V.ref).length : Int) > 1
      · have hn' : (cs.length : Int) > 1 := by rw [List.length_map, hlen] at hn; exact hn
        walk_at "go"
        refine Rd.popAt hl n0 (by omega) sl (by rw [List.getElem?_map, hpn]; rfl) ?_
        walk_at "go"
        have r := TL.eraseRow (j := n.toNat) hl hR
        have el : (cs.eraseIdx n.toNat).length = cs.length - 1 := by rw [List.length_eraseIdx]; rw [if_pos (by omega)]
        exact q _ _ (S2.putL hl ncl) (fun a xs z => TupSub.putL hl _ _ (sub2 _ _ z)) r (by omega) (by omega)
      · walk_at "go"
        exact q _ _ S2 sub2 ⟨ps0, hl, hR⟩ hpos (by omega)
    · have c8 : kd = 8 := by omega
      walk_at "go"
      refine Rd.new (by simp) fun p3 np3 => ?_
      walk_at "go"
      refine Rd.setL (keep np3 hl) il ?_
      walk_at "go"
      exact key _ _ _ p3 (S2.new np3) (fun a xs z => keep np3 (sub2 _ _ z)) (keep np3 hl) (hR.sub (TupSub.same (Same.put np3))) upd_same
def spLTakes (n : Nat) : Sp := fun vs H Q _ => ∃ (v : V) (s e : Int) (l : Addr) (D : Den) (cs : List (Int × Int)), vs = [v, .int s, .int e, .ref l] ∧ Ex H n true v D ∧ n ≤ 12 ∧ TL H l (cs.map cRow) ∧ ∀ H', Same H H' → Q (.bl (ltakes D s e cs)) H'
theorem ltakes_go {n : Nat} {H : Hp} {v : V} {s e : Int} {l : Addr} {D : Den} {cs : List (Int × Int)} {Q : VK} {E : XK} (hv : Ex H n true v D) (hn : n ≤ 12) (t : TL H l (cs.map cRow)) (q : ∀ H', Same H H' → Q (.bl (ltakes D s e cs)) H') : CALL (spLTakes n) [v, .int s, .int e, .ref l] H Q E := ⟨v, s, e, l, D, cs, rfl, hv, hn, t, q⟩
set_option maxHeartbeats 16000000 in
theorem ok_ltakes (T : Txt K mg) (n lv : Nat) (Sr : ∃ (f : Addr) (fd : FuncData), FnOk P w K mg base CX0 lv f fd ["q", "t", "k"] (spLSure n) ∧ mg "_law_sure" = some (.ref f) ∧ PySem.W.keepIn K (.ref f) = true ∧ L2.Binds K fd ["q", "t", "k"] []) :
    ∃ (f : Addr) (fd : FuncData), FnOk P w K mg base CX0 (lv + 1) f fd ["q", "start", "end", "cells"] (spLTakes n) ∧ mg "_law_takes" = some (.ref f) ∧ PySem.W.keepIn K (.ref f) = true ∧ L2.Binds K fd ["q", "start", "end", "cells"] [] := by
  obtain ⟨f, fd, F, g, bi⟩ := T.d__law_takes
  obtain ⟨f__law_sure, fd__law_sure, G__law_sure, g__law_sure, kp__law_sure, b__law_sure⟩ := Sr
  refine ⟨f, fd, ?_, g, F.kp, bi⟩
  refine F.ok sc__law_takes (fun vs H Q E h => ?_) (fun cdv A outer s H vs Q E hr h => ?_)
  · obtain ⟨v, s, e, l, D, cs, rfl, _⟩ := h; rfl
  · obtain ⟨v, s, e, l, D, cs, rfl, hv, hn, ⟨ps, hl, hR⟩, q⟩ := h
    refine ⟨_, (pss_cons (ps_set (i := 4) sc__law_takes.nd rfl (by first | exact Or.inl rfl | exact Or.inr rfl) (pv 1))
      (pss_cons (ps_for PassesOwn.never rfl (pi_list (pv 3)) (pg_name (i := 5) sc__law_takes.nd rfl (by first | exact Or.inl rfl | exact Or.inr rfl)) (pss_cons (ps_if (PW.pt (pw_or (pt_cmpR op_ne (pe_ix ix_tup (pv 5) pe_int (fun _ _ => rfl)) (pv 4) (nomark _)) (pw_or (pt_cmpR op_lt (pe_ix ix_tup (pv 5) pe_int (fun _ _ => rfl)) pe_int (nomark _)) (pw_or (pt_cmpR op_gt (pe_op op_add (pe_ix ix_tup (pv 5) pe_int (fun _ _ => rfl)) (pe_ix ix_tup (pv 5) pe_int (fun _ _ => rfl))) (pv 2) (nomark _)) (pw_or1 (pt_not (pt_val (pe_call G__law_sure (hr.mono (by omega)) (by rfl) g__law_sure kp__law_sure b__law_sure .nil pass0 (pa_cons (pv 0) (pa_cons (pe_ix ix_tup (pv 5) pe_int (fun _ _ => rfl)) (pa_cons (pe_ix ix_tup (pv 5) pe_int (fun _ _ => rfl)) pa_nil))))))))))) (pss_one (ps_ret pe_bl)) pss_nil)
      (pss_one (ps_set (i := 4) sc__law_takes.nd rfl (by first | exact Or.inl rfl | exact Or.inr rfl) (pe_op op_add (pe_op op_add (pv 4) (pe_ix ix_tup (pv 5) pe_int (fun _ _ => rfl))) pe_int)))))
      (pss_one (ps_ret (pe_cmpR op_eq (pv 4) (pe_op op_add (pv 2) pe_int) (nomark _)))))), ?_⟩
    refine Rd.start (σ' := [some v, some (.int s), some (.int e), some (.ref l), none, none]) rfl ?_
    try dsimp only [cxOf, Cx.nox, Cx.wish]
    walk_at "go"
    refine Rd.forlGo (SqL.of hl) (fun i σ' H' => ∃ t x1, σ' = [some v, some (.int s), some (.int e), some (.ref l), some (.int t), x1] ∧ Same H H' ∧ ltakes D s e cs = ltakes D t e (cs.drop i)) ⟨s, none, rfl, Same.refl _, rfl⟩ (fun i σ' H' _ h => by obtain ⟨_, _, _, sm, _⟩ := h; exact sm.seq (SqL.of hl)) (fun i x σ' H' hx h => ?_) (fun σ' H' h => ?_)
    · obtain ⟨t, x1, rfl, sm, hc⟩ := h
      obtain ⟨p, r, rfl, hr2, hp⟩ := TL.row (l := l) hR hx
      obtain ⟨c, hci, rfl⟩ := cells_at hr2
      rw [drop_at hci] at hc
      have hp' := sm _ _ hp
      walk_at "go"
      by_cases h1 : c.1 = t
      · by_cases h2 : 0 ≤ c.2
        · by_cases h3 : c.1 + c.2 ≤ e
          · walk_at "go"
            refine lsure_go (hv.sub (TupSub.same sm)) hn h2 fun H1 s1 => ?_
            have hp1 := s1 _ _ hp'
            cases b : sureB D (c.1, c.2) with
            | true =>
              walk_at "go"
              refine ⟨_, _, rfl, sm.trans s1, ?_⟩
              rw [hc]
              simp only [ltakes, decide_eq_true h1, decide_eq_true h2, decide_eq_true h3, Bool.true_and]
              rw [show sureB D c = true from b, Bool.true_and]
            | false =>
              walk_at "go"
              have z : ltakes D s e cs = false := by
                rw [hc]
                simp only [ltakes, show sureB D c = false from b, Bool.and_false, Bool.false_and]
              have rr := q _ (sm.trans s1)
              rw [z] at rr
              exact rr
          · walk_at "go"
            have z : ltakes D s e cs = false := by
              rw [hc]
              simp [ltakes, h3]
            have rr := q _ sm
            rw [z] at rr
            exact rr
        · walk_at "go"
          have z : ltakes D s e cs = false := by
            rw [hc]
            simp [ltakes, h2]
          have rr := q _ sm
          rw [z] at rr
          exact rr
      · walk_at "go"
        have z : ltakes D s e cs = false := by
          rw [hc]
          simp [ltakes, h1]
        have rr := q _ sm
        rw [z] at rr
        exact rr
    · obtain ⟨t, x1, rfl, sm, hc⟩ := h
      have hlen : ps.length = cs.length := by rw [hR.len, List.length_map]
      rw [List.length_map, hlen, List.drop_length] at hc
      walk_at "go"
      have rr := q _ sm
      rw [hc] at rr
      exact rr
end

section
open Rd
variable {P : Program} {w : World} {K : PySem.W.Frag} {mg : Str → Option Value} {base : Heap}
def spLaw (K : PySem.W.Frag) : Sp := fun vs H Q _ => ∃ (a : Addr) (ns : List Int), vs = [.ref a] ∧ SqL K H a (ns.map V.int) ∧ ns.length ≤ 63 ∧ ∀ H', Q (.bl true) H'

set_option maxHeartbeats 16000000 in
theorem ok_law {f : Addr} {fd : FuncData} (T : Txt K mg) (F : Fun K "law" "law" s_law f fd) : FnOk P w K mg base CX0 30 f fd ["script"] (spLaw K) := by
  obtain ⟨f__law_start, fd__law_start, G__law_start, g__law_start, kp__law_start, b__law_start⟩ := ok_start (P := P) (w := w) (base := base) T
  obtain ⟨f__law_draw, fd__law_draw, G__law_draw, g__law_draw, kp__law_draw, b__law_draw⟩ := ok_draw (P := P) (w := w) (base := base) T
  obtain ⟨f__law_pick, fd__law_pick, G__law_pick, g__law_pick, kp__law_pick, b__law_pick⟩ := ok_pick (P := P) (w := w) (base := base) T
  obtain ⟨f__law_is, fd__law_is, G__law_is, g__law_is, kp__law_is, b__law_is⟩ := ok_is (P := P) (w := w) (base := base) T
  obtain ⟨f__law_series, fd__law_series, G__law_series, g__law_series, kp__law_series, b__law_series⟩ := ok_series (P := P) (w := w) (base := base) T
  obtain ⟨MM, _⟩ := ok_reaches (P := P) (w := w) (base := base) T 6
  have RR := ok_reach T 6 _ MM
  obtain ⟨VV, _⟩ := ok_value (P := P) (w := w) (base := base) T 6
  obtain ⟨LR, _⟩ := ok_lreach (P := P) (w := w) (base := base) T 6
  obtain ⟨LV, _⟩ := ok__law_value (P := P) (w := w) (base := base) T 6
  have up : ∀ {j k : Nat} {x : Str} {ps : List Str} {sp : Sp}, j ≤ k → (∃ (f : Addr) (fd : FuncData), FnOk P w K mg base CX0 j f fd ps sp ∧ mg x = some (.ref f) ∧ PySem.W.keepIn K (.ref f) = true ∧ L2.Binds K fd ps []) → ∃ (f : Addr) (fd : FuncData), FnOk P w K mg base CX0 k f fd ps sp ∧ mg x = some (.ref f) ∧ PySem.W.keepIn K (.ref f) = true ∧ L2.Binds K fd ps [] := fun h ⟨f, fd, G, r⟩ => ⟨f, fd, G.mono h, r⟩
  have SU := ok_sure T 6 22 (up (by decide) RR) (up (by decide) VV)
  obtain ⟨f_takes, fd_takes, G_takes, g_takes, kp_takes, b_takes⟩ := ok_takes T 6 22 SU
  obtain ⟨f_changes_of, fd_changes_of, G_changes_of, g_changes_of, kp_changes_of, b_changes_of⟩ := ok_chOf T 6 22 (up (by decide) VV)
  have LS := ok_lsure T 6 22 (up (by decide) LR) (up (by decide) LV)
  obtain ⟨f__law_cells, fd__law_cells, G__law_cells, g__law_cells, kp__law_cells, b__law_cells⟩ := ok_cells T 6 23 (by decide) LS
  obtain ⟨f__law_takes, fd__law_takes, G__law_takes, g__law_takes, kp__law_takes, b__law_takes⟩ := ok_ltakes T 6 23 LS
  obtain ⟨f__law_changes, fd__law_changes, G__law_changes, g__law_changes, kp__law_changes, b__law_changes⟩ := ok_chg T 6 22 (up (by decide) LV)
  obtain ⟨f__law_spoil, fd__law_spoil, G__law_spoil, g__law_spoil, kp__law_spoil, b__law_spoil⟩ := ok_spoil (P := P) (w := w) (base := base) T
  refine F.ok sc_law (fun vs H Q E h => ?_) (fun cdv A outer s H vs Q E hr h => ?_)
  · obtain ⟨a, ns, rfl, _⟩ := h; rfl
  · obtain ⟨a, ns, rfl, hS, hlen, q⟩ := h
    refine ⟨_, (pss_cons (ps_set (i := 1) sc_law.nd rfl (by first | exact Or.inl rfl | exact Or.inr rfl) (pe_call G__law_start (hr.mono (by omega)) (by rfl) g__law_start kp__law_start b__law_start .nil pass0 (pa_cons (pv 0) pa_nil)))
      (pss_cons (ps_set (i := 2) sc_law.nd rfl (by first | exact Or.inl rfl | exact Or.inr rfl) (pe_call G__law_series (hr.mono (by omega)) (by rfl) g__law_series kp__law_series b__law_series .nil pass0 (pa_cons (pv 1) pa_nil)))
      (pss_cons (ps_set (i := 3) sc_law.nd rfl (by first | exact Or.inl rfl | exact Or.inr rfl) (pe_op op_sub (pe_call G__law_draw (hr.mono (by omega)) (by rfl) g__law_draw kp__law_draw b__law_draw .nil pass0 (pa_cons (pv 1) (pa_cons pe_int pa_nil))) pe_int))
      (pss_cons (ps_set (i := 4) sc_law.nd rfl (by first | exact Or.inl rfl | exact Or.inr rfl) (pe_op op_add (pv 3) (pe_call G__law_draw (hr.mono (by omega)) (by rfl) g__law_draw kp__law_draw b__law_draw .nil pass0 (pa_cons (pv 1) (pa_cons (pe_call G__law_pick (hr.mono (by omega)) (by rfl) g__law_pick kp__law_pick b__law_pick .nil pass0 (pa_cons (pv 1) (pa_cons (pe_lst (pa_cons pe_int (pa_cons pe_int (pa_cons pe_int (pa_cons pe_int pa_nil))))) pa_nil))) pa_nil)))))
      (pss_cons (ps_set (i := 5) sc_law.nd rfl (by first | exact Or.inl rfl | exact Or.inr rfl) (pe_call G__law_cells (hr.mono (by omega)) (by rfl) g__law_cells kp__law_cells b__law_cells .nil pass0 (pa_cons (pv 1) (pa_cons (pv 2) (pa_cons (pv 3) (pa_cons (pv 4) pa_nil))))))
      (pss_cons (ps_for PassesOwn.never rfl (pi_range1 (by rfl) T.m_range (pa_cons (pe_call G__law_draw (hr.mono (by omega)) (by rfl) g__law_draw kp__law_draw b__law_draw .nil pass0 (pa_cons (pv 1) (pa_cons pe_int pa_nil))) pa_nil)) (pg_name (i := 6) sc_law.nd rfl (by first | exact Or.inl rfl | exact Or.inr rfl)) (pss_one (ps_expr (pe_call G__law_spoil (hr.mono (by omega)) (by rfl) g__law_spoil kp__law_spoil b__law_spoil .nil pass0 (pa_cons (pv 1) (pa_cons (pv 5) pa_nil))))))
      (pss_cons (ps_set (i := 7) sc_law.nd rfl (by first | exact Or.inl rfl | exact Or.inr rfl) (pe_callTy call_list_of (by rfl) T.m_list (by decide +kernel) (pa_cons (pv 5) pa_nil)))
      (pss_cons (ps_set (i := 8) sc_law.nd rfl (by first | exact Or.inl rfl | exact Or.inr rfl) (pe_call G__law_takes (hr.mono (by omega)) (by rfl) g__law_takes kp__law_takes b__law_takes .nil pass0 (pa_cons (pv 2) (pa_cons (pv 3) (pa_cons (pv 4) (pa_cons (pv 5) pa_nil))))))
      (pss_cons (ps_if (PW.pt (pw_or (pt_not (pt_val (pe_call G__law_is (hr.mono (by omega)) (by rfl) g__law_is kp__law_is b__law_is .nil pass0 (pa_cons (pe_call G_takes (hr.mono (by omega)) (by rfl) g_takes kp_takes b_takes .nil pass0 (pa_cons (pv 2) (pa_cons (pv 3) (pa_cons (pv 4) (pa_cons (pv 5) pa_nil))))) (pa_cons (pv 8) pa_nil))))) (pw_or1 (pt_cmpR (op_neD hr.units) (pv 5) (pv 7) (nomark _))))) (pss_one (ps_ret pe_bl)) pss_nil)
      (pss_cons (ps_if (pt_not (pt_val (pv 8))) (pss_one (ps_ret (pe_call G__law_is (hr.mono (by omega)) (by rfl) g__law_is kp__law_is b__law_is .nil pass0 (pa_cons (pe_call G_takes (hr.mono (by omega)) (by rfl) g_takes kp_takes b_takes .nil pass0 (pa_cons (pv 2) (pa_cons (pv 3) (pa_cons (pv 4) (pa_cons (pe_lst pa_nil) pa_nil))))) (pa_cons pe_bl pa_nil))))) pss_nil)
      (pss_one (ps_ret (pe_and (pe_cmpR (op_eqD hr.units) (pe_call G_changes_of (hr.mono (by omega)) (by rfl) g_changes_of kp_changes_of b_changes_of .nil pass0 (pa_cons (pv 2) (pa_cons (pv 5) pa_nil))) (pe_call G__law_changes (hr.mono (by omega)) (by rfl) g__law_changes kp__law_changes b__law_changes .nil pass0 (pa_cons (pv 2) (pa_cons (pv 3) (pa_cons (pv 4) pa_nil)))) (nomark _)) (pe_one (pe_cmpR (op_eqD hr.units) (pv 5) (pv 7) (nomark _)))))))))))))))), ?_⟩
    refine Rd.start (σ' := [some (.ref a), none, none, none, none, none, none, none, none]) rfl ?_
    try dsimp only [cxOf, Cx.nox, Cx.wish]
    walk_at "go"
    refine start_go hS hlen fun d cc H1 S1 _ _ => ?_
    walk_at "go"
    refine series_go S1 fun v D H2 hv S2 B2 => ?_
    walk_at "go"
    refine draw_go S2 (by omega) (by omega) fun n1 H3 n10 n11 S3 B3 => ?_
    walk_at "go"
    refine pickI [1, 9, 60, 120] 1 120 S3 rfl (by decide) (by decide) (by decide) fun k1 H4 _ l1 u1 S4 B4 => ?_
    walk_at "go"
    refine draw_go S4 (by omega) (by omega) fun n2 H5 n20 n21 S5 B5 => ?_
    have hv5 := hv.sub (TupSub.but S2 ((B3.trans B4).trans B5))
    have hse : n1 - 10000 ≤ n1 - 10000 + n2 := by omega
    have hd2 : n1 - 10000 + n2 - (n1 - 10000) ≤ 120 := by omega
    have hb1 : -10000 ≤ n1 - 10000 := by omega
    have hb2 : n1 - 10000 + n2 ≤ 20000 := by omega
    walk_at "go"
    generalize n1 - 10000 + n2 = e at *
    generalize n1 - 10000 = s0 at *
    refine cells_go S5 hv5 (by omega) hse (by omega) fun H6 l cs S6 B6 ncl hT hpos hle => ?_
    have hv6 := hv5.sub (TupSub.but S5 B6)
    walk_at "go"
    refine draw_go S6 (by omega) (by omega) fun n3 H7 n30 n31 S7 B7 => ?_
    have hv7 := hv6.sub (TupSub.but S6 B7)
    have hT7 := hT.but S6 B7
    walk_at "go"
    refine Rd.rngGo (by omega) (fun i σ' H' => ∃ (x : Option V) (cs : List (Int × Int)), σ' = [some (.ref a), some (.ref d), some v, some (.int s0), some (.int e), some (.ref l), x, none, none] ∧ DrawS H' d cc ∧ Ex H' 6 true v D ∧ TL H' l (cs.map cRow) ∧ 0 < cs.length ∧ cs.length ≤ 201 + i)
      ⟨none, cs, rfl, S7, hv7, hT7, hpos, by omega⟩ (fun i σ' H' hi h => ?_) (fun σ' H' h => ?_) (by omega)
    · obtain ⟨x, cs, rfl, S8, hv8, hT8, hp8, hl8⟩ := h
      walk_at "go"
      refine spoil_go S8 ncl hT8 hp8 (by omega) fun H9 cs' S9 sub hT9 hp9 hl9 => ?_
      walk_at "go"
      exact ⟨_, cs', rfl, S9, hv8.sub sub, hT9, hp9, by omega⟩
    · obtain ⟨x, cs, rfl, S8, hv8, hT8, hp8, hl8⟩ := h
      obtain ⟨ps, hl, hR⟩ := id hT8
      have good := hv8.good
      walk_at "go"
      refine Rd.lstL (SqL.of hl) fun kp nk => ?_
      have hv9 := hv8.sub (TupSub.same (Same.put (o := .lst (ps.map V.ref)) nk))
      have hT9 : TL (upd H' kp (.lst (ps.map V.ref))) l (cs.map cRow) := ⟨ps, keep nk hl, hR.sub (TupSub.same (Same.put nk))⟩
      have hK9 : TL (upd H' kp (.lst (ps.map V.ref))) kp (cs.map cRow) := ⟨ps, upd_same, hR.sub (TupSub.same (Same.put nk))⟩
      generalize upd H' kp (.lst (ps.map V.ref)) = H9 at *
      walk_at "go"
      refine ltakes_go hv9 (by omega) hT9 fun H10 s10 => ?_
      walk_at "go"
      refine takes_go (hv9.sub (TupSub.same s10)) (by omega) hse (hT9.same s10) (by omega) fun H11 s11 => ?_
      rw [takes_eq]
      walk_at "go"
      refine is_go ?_
      have sm := s10.trans s11
      rw [decide_eq_true (rfl : ltakes D s0 e cs = ltakes D s0 e cs)]
      walk_at "go"
      refine (hT9.same sm).neq (hK9.same sm) (cRow_flat cs) ?_
      walk_at "go"
      cases due : ltakes D s0 e cs with
      | false =>
        walk_at "go"
        refine Rd.new (by simp) fun p0 np0 => ?_
        walk_at "go"
        have hT0 : TL (upd H11 p0 (.lst [])) p0 (([] : List (Int × Int)).map cRow) := ⟨[], upd_same, trivial⟩
        refine takes_go ((hv9.sub (TupSub.same sm)).sub (TupSub.same (Same.put np0))) (by omega) hse hT0 (by decide) fun H12 s12 => ?_
        have z : covB s0 e [] = false := decide_eq_false (by omega)
        rw [z, Bool.false_and]
        walk_at "go"
        refine is_go ?_
        exact q _
      | true =>
        have te := takes_eq D e cs s0
        rw [due, Bool.and_eq_true] at te
        walk_at "go"
        refine chOf_go (hv9.sub (TupSub.same sm)) (by omega) (hT9.same sm) (by omega) fun H12 p12 s12 np12 hC12 => ?_
        walk_at "go"
        refine chg_go (hv9.sub (TupSub.same (sm.trans s12))) (by omega) hse (by omega) (by omega) (by omega) fun H13 p13 s13 np13 hC13 => ?_
        rw [chOf_all good hse te.1 te.2] at hC12
        walk_at "go"
        refine (hC12.same s13).eq hC13 (chg_flat _ _ _) ?_
        walk_at "go"
        have sf := (sm.trans s12).trans s13
        refine (hT9.same sf).eq (hK9.same sf) (cRow_flat cs) ?_
        exact q _
end
theorem all_mk {l : PySem.W.OpenLaw} {w : World} {K : PySem.W.Frag} {h : Heap} {mg : Str → Option Value} {fa : Addr} (X : K.In h) (G : h.Ns mainGlobals mg) (hfa : mg "law" = some (.ref fa))
    {f0 : Addr} {od0 an0 : Option Addr} {sl0 : Array (Option Value)} {oc0 kV0 dc0 pm0 cd0 ct0 : Value} (a0 : PySem.W.nsIn K mainGlobals "reach" = some (some (.ref f0))) (l0 : K.lookup f0 = some ⟨oc0, od0, .func (PySem.W.fnOf "reach" "reach" (defArgs s_reach) (defBody s_reach) (defScope s_reach) .none kV0 dc0 pm0 an0 cd0 ct0), sl0⟩) (c0 : PySem.W.codeIn K cd0 "reach" = true) (k0 : PySem.W.keepIn K (.ref f0) = true)
    {f1 : Addr} {od1 an1 : Option Addr} {sl1 : Array (Option Value)} {oc1 kV1 dc1 pm1 cd1 ct1 : Value} (a1 : PySem.W.nsIn K mainGlobals "angle_reach" = some (some (.ref f1))) (l1 : K.lookup f1 = some ⟨oc1, od1, .func (PySem.W.fnOf "angle_reach" "angle_reach" (defArgs s_angle_reach) (defBody s_angle_reach) (defScope s_angle_reach) .none kV1 dc1 pm1 an1 cd1 ct1), sl1⟩) (c1 : PySem.W.codeIn K cd1 "angle_reach" = true) (k1 : PySem.W.keepIn K (.ref f1) = true)
    {f2 : Addr} {od2 an2 : Option Addr} {sl2 : Array (Option Value)} {oc2 kV2 dc2 pm2 cd2 ct2 : Value} (a2 : PySem.W.nsIn K mainGlobals "_rounded_up" = some (some (.ref f2))) (l2 : K.lookup f2 = some ⟨oc2, od2, .func (PySem.W.fnOf "_rounded_up" "_rounded_up" (defArgs s__rounded_up) (defBody s__rounded_up) (defScope s__rounded_up) .none kV2 dc2 pm2 an2 cd2 ct2), sl2⟩) (c2 : PySem.W.codeIn K cd2 "_rounded_up" = true) (k2 : PySem.W.keepIn K (.ref f2) = true)
    {f3 : Addr} {od3 an3 : Option Addr} {sl3 : Array (Option Value)} {oc3 kV3 dc3 pm3 cd3 ct3 : Value} (a3 : PySem.W.nsIn K mainGlobals "_most_and_reach" = some (some (.ref f3))) (l3 : K.lookup f3 = some ⟨oc3, od3, .func (PySem.W.fnOf "_most_and_reach" "_most_and_reach" (defArgs s__most_and_reach) (defBody s__most_and_reach) (defScope s__most_and_reach) .none kV3 dc3 pm3 an3 cd3 ct3), sl3⟩) (c3 : PySem.W.codeIn K cd3 "_most_and_reach" = true) (k3 : PySem.W.keepIn K (.ref f3) = true)
    {f4 : Addr} {od4 an4 : Option Addr} {sl4 : Array (Option Value)} {oc4 kV4 dc4 pm4 cd4 ct4 : Value} (a4 : PySem.W.nsIn K mainGlobals "_uncapped" = some (some (.ref f4))) (l4 : K.lookup f4 = some ⟨oc4, od4, .func (PySem.W.fnOf "_uncapped" "_uncapped" (defArgs s__uncapped) (defBody s__uncapped) (defScope s__uncapped) .none kV4 dc4 pm4 an4 cd4 ct4), sl4⟩) (c4 : PySem.W.codeIn K cd4 "_uncapped" = true) (k4 : PySem.W.keepIn K (.ref f4) = true)
    {f5 : Addr} {od5 an5 : Option Addr} {sl5 : Array (Option Value)} {oc5 kV5 dc5 pm5 cd5 ct5 : Value} (a5 : PySem.W.nsIn K mainGlobals "_wave_reach" = some (some (.ref f5))) (l5 : K.lookup f5 = some ⟨oc5, od5, .func (PySem.W.fnOf "_wave_reach" "_wave_reach" (defArgs s__wave_reach) (defBody s__wave_reach) (defScope s__wave_reach) .none kV5 dc5 pm5 an5 cd5 ct5), sl5⟩) (c5 : PySem.W.codeIn K cd5 "_wave_reach" = true) (k5 : PySem.W.keepIn K (.ref f5) = true)
    {f6 : Addr} {od6 an6 : Option Addr} {sl6 : Array (Option Value)} {oc6 kV6 dc6 pm6 cd6 ct6 : Value} (a6 : PySem.W.nsIn K mainGlobals "arch" = some (some (.ref f6))) (l6 : K.lookup f6 = some ⟨oc6, od6, .func (PySem.W.fnOf "arch" "arch" (defArgs s_arch) (defBody s_arch) (defScope s_arch) .none kV6 dc6 pm6 an6 cd6 ct6), sl6⟩) (c6 : PySem.W.codeIn K cd6 "arch" = true) (k6 : PySem.W.keepIn K (.ref f6) = true)
    {f7 : Addr} {od7 an7 : Option Addr} {sl7 : Array (Option Value)} {oc7 kV7 dc7 pm7 cd7 ct7 : Value} (a7 : PySem.W.nsIn K mainGlobals "wave" = some (some (.ref f7))) (l7 : K.lookup f7 = some ⟨oc7, od7, .func (PySem.W.fnOf "wave" "wave" (defArgs s_wave) (defBody s_wave) (defScope s_wave) .none kV7 dc7 pm7 an7 cd7 ct7), sl7⟩) (c7 : PySem.W.codeIn K cd7 "wave" = true) (k7 : PySem.W.keepIn K (.ref f7) = true)
    {f8 : Addr} {od8 an8 : Option Addr} {sl8 : Array (Option Value)} {oc8 kV8 dc8 pm8 cd8 ct8 : Value} (a8 : PySem.W.nsIn K mainGlobals "value" = some (some (.ref f8))) (l8 : K.lookup f8 = some ⟨oc8, od8, .func (PySem.W.fnOf "value" "value" (defArgs s_value) (defBody s_value) (defScope s_value) .none kV8 dc8 pm8 an8 cd8 ct8), sl8⟩) (c8 : PySem.W.codeIn K cd8 "value" = true) (k8 : PySem.W.keepIn K (.ref f8) = true)
    {f9 : Addr} {od9 an9 : Option Addr} {sl9 : Array (Option Value)} {oc9 kV9 dc9 pm9 cd9 ct9 : Value} (a9 : PySem.W.nsIn K mainGlobals "angle_value" = some (some (.ref f9))) (l9 : K.lookup f9 = some ⟨oc9, od9, .func (PySem.W.fnOf "angle_value" "angle_value" (defArgs s_angle_value) (defBody s_angle_value) (defScope s_angle_value) .none kV9 dc9 pm9 an9 cd9 ct9), sl9⟩) (c9 : PySem.W.codeIn K cd9 "angle_value" = true) (k9 : PySem.W.keepIn K (.ref f9) = true)
    {f10 : Addr} {od10 an10 : Option Addr} {sl10 : Array (Option Value)} {oc10 kV10 dc10 pm10 cd10 ct10 : Value} (a10 : PySem.W.nsIn K mainGlobals "takes" = some (some (.ref f10))) (l10 : K.lookup f10 = some ⟨oc10, od10, .func (PySem.W.fnOf "takes" "takes" (defArgs s_takes) (defBody s_takes) (defScope s_takes) .none kV10 dc10 pm10 an10 cd10 ct10), sl10⟩) (c10 : PySem.W.codeIn K cd10 "takes" = true) (k10 : PySem.W.keepIn K (.ref f10) = true)
    {f11 : Addr} {od11 an11 : Option Addr} {sl11 : Array (Option Value)} {oc11 kV11 dc11 pm11 cd11 ct11 : Value} (a11 : PySem.W.nsIn K mainGlobals "changes_of" = some (some (.ref f11))) (l11 : K.lookup f11 = some ⟨oc11, od11, .func (PySem.W.fnOf "changes_of" "changes_of" (defArgs s_changes_of) (defBody s_changes_of) (defScope s_changes_of) .none kV11 dc11 pm11 an11 cd11 ct11), sl11⟩) (c11 : PySem.W.codeIn K cd11 "changes_of" = true) (k11 : PySem.W.keepIn K (.ref f11) = true)
    {f12 : Addr} {od12 an12 : Option Addr} {sl12 : Array (Option Value)} {oc12 kV12 dc12 pm12 cd12 ct12 : Value} (a12 : PySem.W.nsIn K mainGlobals "covers" = some (some (.ref f12))) (l12 : K.lookup f12 = some ⟨oc12, od12, .func (PySem.W.fnOf "covers" "covers" (defArgs s__covers) (defBody s__covers) (defScope s__covers) .none kV12 dc12 pm12 an12 cd12 ct12), sl12⟩) (c12 : PySem.W.codeIn K cd12 "covers" = true) (k12 : PySem.W.keepIn K (.ref f12) = true)
    {f13 : Addr} {od13 an13 : Option Addr} {sl13 : Array (Option Value)} {oc13 kV13 dc13 pm13 cd13 ct13 : Value} (a13 : PySem.W.nsIn K mainGlobals "_all_sure" = some (some (.ref f13))) (l13 : K.lookup f13 = some ⟨oc13, od13, .func (PySem.W.fnOf "_all_sure" "_all_sure" (defArgs s__all_sure) (defBody s__all_sure) (defScope s__all_sure) .none kV13 dc13 pm13 an13 cd13 ct13), sl13⟩) (c13 : PySem.W.codeIn K cd13 "_all_sure" = true) (k13 : PySem.W.keepIn K (.ref f13) = true)
    {f14 : Addr} {od14 an14 : Option Addr} {sl14 : Array (Option Value)} {oc14 kV14 dc14 pm14 cd14 ct14 : Value} (a14 : PySem.W.nsIn K mainGlobals "_law_start" = some (some (.ref f14))) (l14 : K.lookup f14 = some ⟨oc14, od14, .func (PySem.W.fnOf "_law_start" "_law_start" (defArgs s__law_start) (defBody s__law_start) (defScope s__law_start) .none kV14 dc14 pm14 an14 cd14 ct14), sl14⟩) (c14 : PySem.W.codeIn K cd14 "_law_start" = true) (k14 : PySem.W.keepIn K (.ref f14) = true)
    {f15 : Addr} {od15 an15 : Option Addr} {sl15 : Array (Option Value)} {oc15 kV15 dc15 pm15 cd15 ct15 : Value} (a15 : PySem.W.nsIn K mainGlobals "_law_draw" = some (some (.ref f15))) (l15 : K.lookup f15 = some ⟨oc15, od15, .func (PySem.W.fnOf "_law_draw" "_law_draw" (defArgs s__law_draw) (defBody s__law_draw) (defScope s__law_draw) .none kV15 dc15 pm15 an15 cd15 ct15), sl15⟩) (c15 : PySem.W.codeIn K cd15 "_law_draw" = true) (k15 : PySem.W.keepIn K (.ref f15) = true)
    {f16 : Addr} {od16 an16 : Option Addr} {sl16 : Array (Option Value)} {oc16 kV16 dc16 pm16 cd16 ct16 : Value} (a16 : PySem.W.nsIn K mainGlobals "_law_pick" = some (some (.ref f16))) (l16 : K.lookup f16 = some ⟨oc16, od16, .func (PySem.W.fnOf "_law_pick" "_law_pick" (defArgs s__law_pick) (defBody s__law_pick) (defScope s__law_pick) .none kV16 dc16 pm16 an16 cd16 ct16), sl16⟩) (c16 : PySem.W.codeIn K cd16 "_law_pick" = true) (k16 : PySem.W.keepIn K (.ref f16) = true)
    {f17 : Addr} {od17 an17 : Option Addr} {sl17 : Array (Option Value)} {oc17 kV17 dc17 pm17 cd17 ct17 : Value} (a17 : PySem.W.nsIn K mainGlobals "_law_is" = some (some (.ref f17))) (l17 : K.lookup f17 = some ⟨oc17, od17, .func (PySem.W.fnOf "_law_is" "_law_is" (defArgs s__law_is) (defBody s__law_is) (defScope s__law_is) .none kV17 dc17 pm17 an17 cd17 ct17), sl17⟩) (c17 : PySem.W.codeIn K cd17 "_law_is" = true) (k17 : PySem.W.keepIn K (.ref f17) = true)
    {f18 : Addr} {od18 an18 : Option Addr} {sl18 : Array (Option Value)} {oc18 kV18 dc18 pm18 cd18 ct18 : Value} (a18 : PySem.W.nsIn K mainGlobals "_law_wave_part" = some (some (.ref f18))) (l18 : K.lookup f18 = some ⟨oc18, od18, .func (PySem.W.fnOf "_law_wave_part" "_law_wave_part" (defArgs s__law_wave_part) (defBody s__law_wave_part) (defScope s__law_wave_part) .none kV18 dc18 pm18 an18 cd18 ct18), sl18⟩) (c18 : PySem.W.codeIn K cd18 "_law_wave_part" = true) (k18 : PySem.W.keepIn K (.ref f18) = true)
    {f19 : Addr} {od19 an19 : Option Addr} {sl19 : Array (Option Value)} {oc19 kV19 dc19 pm19 cd19 ct19 : Value} (a19 : PySem.W.nsIn K mainGlobals "_law_series" = some (some (.ref f19))) (l19 : K.lookup f19 = some ⟨oc19, od19, .func (PySem.W.fnOf "_law_series" "_law_series" (defArgs s__law_series) (defBody s__law_series) (defScope s__law_series) .none kV19 dc19 pm19 an19 cd19 ct19), sl19⟩) (c19 : PySem.W.codeIn K cd19 "_law_series" = true) (k19 : PySem.W.keepIn K (.ref f19) = true)
    {f20 : Addr} {od20 an20 : Option Addr} {sl20 : Array (Option Value)} {oc20 kV20 dc20 pm20 cd20 ct20 : Value} (a20 : PySem.W.nsIn K mainGlobals "_law_arch" = some (some (.ref f20))) (l20 : K.lookup f20 = some ⟨oc20, od20, .func (PySem.W.fnOf "_law_arch" "_law_arch" (defArgs s__law_arch) (defBody s__law_arch) (defScope s__law_arch) .none kV20 dc20 pm20 an20 cd20 ct20), sl20⟩) (c20 : PySem.W.codeIn K cd20 "_law_arch" = true) (k20 : PySem.W.keepIn K (.ref f20) = true)
    {f21 : Addr} {od21 an21 : Option Addr} {sl21 : Array (Option Value)} {oc21 kV21 dc21 pm21 cd21 ct21 : Value} (a21 : PySem.W.nsIn K mainGlobals "_law_wave" = some (some (.ref f21))) (l21 : K.lookup f21 = some ⟨oc21, od21, .func (PySem.W.fnOf "_law_wave" "_law_wave" (defArgs s__law_wave) (defBody s__law_wave) (defScope s__law_wave) .none kV21 dc21 pm21 an21 cd21 ct21), sl21⟩) (c21 : PySem.W.codeIn K cd21 "_law_wave" = true) (k21 : PySem.W.keepIn K (.ref f21) = true)
    {f22 : Addr} {od22 an22 : Option Addr} {sl22 : Array (Option Value)} {oc22 kV22 dc22 pm22 cd22 ct22 : Value} (a22 : PySem.W.nsIn K mainGlobals "_law_angle_at" = some (some (.ref f22))) (l22 : K.lookup f22 = some ⟨oc22, od22, .func (PySem.W.fnOf "_law_angle_at" "_law_angle_at" (defArgs s__law_angle_at) (defBody s__law_angle_at) (defScope s__law_angle_at) .none kV22 dc22 pm22 an22 cd22 ct22), sl22⟩) (c22 : PySem.W.codeIn K cd22 "_law_angle_at" = true) (k22 : PySem.W.keepIn K (.ref f22) = true)
    {f23 : Addr} {od23 an23 : Option Addr} {sl23 : Array (Option Value)} {oc23 kV23 dc23 pm23 cd23 ct23 : Value} (a23 : PySem.W.nsIn K mainGlobals "_law_value" = some (some (.ref f23))) (l23 : K.lookup f23 = some ⟨oc23, od23, .func (PySem.W.fnOf "_law_value" "_law_value" (defArgs s__law_value) (defBody s__law_value) (defScope s__law_value) .none kV23 dc23 pm23 an23 cd23 ct23), sl23⟩) (c23 : PySem.W.codeIn K cd23 "_law_value" = true) (k23 : PySem.W.keepIn K (.ref f23) = true)
    {f24 : Addr} {od24 an24 : Option Addr} {sl24 : Array (Option Value)} {oc24 kV24 dc24 pm24 cd24 ct24 : Value} (a24 : PySem.W.nsIn K mainGlobals "_law_up" = some (some (.ref f24))) (l24 : K.lookup f24 = some ⟨oc24, od24, .func (PySem.W.fnOf "_law_up" "_law_up" (defArgs s__law_up) (defBody s__law_up) (defScope s__law_up) .none kV24 dc24 pm24 an24 cd24 ct24), sl24⟩) (c24 : PySem.W.codeIn K cd24 "_law_up" = true) (k24 : PySem.W.keepIn K (.ref f24) = true)
    {f25 : Addr} {od25 an25 : Option Addr} {sl25 : Array (Option Value)} {oc25 kV25 dc25 pm25 cd25 ct25 : Value} (a25 : PySem.W.nsIn K mainGlobals "_law_most" = some (some (.ref f25))) (l25 : K.lookup f25 = some ⟨oc25, od25, .func (PySem.W.fnOf "_law_most" "_law_most" (defArgs s__law_most) (defBody s__law_most) (defScope s__law_most) .none kV25 dc25 pm25 an25 cd25 ct25), sl25⟩) (c25 : PySem.W.codeIn K cd25 "_law_most" = true) (k25 : PySem.W.keepIn K (.ref f25) = true)
    {f26 : Addr} {od26 an26 : Option Addr} {sl26 : Array (Option Value)} {oc26 kV26 dc26 pm26 cd26 ct26 : Value} (a26 : PySem.W.nsIn K mainGlobals "_law_angle_reach" = some (some (.ref f26))) (l26 : K.lookup f26 = some ⟨oc26, od26, .func (PySem.W.fnOf "_law_angle_reach" "_law_angle_reach" (defArgs s__law_angle_reach) (defBody s__law_angle_reach) (defScope s__law_angle_reach) .none kV26 dc26 pm26 an26 cd26 ct26), sl26⟩) (c26 : PySem.W.codeIn K cd26 "_law_angle_reach" = true) (k26 : PySem.W.keepIn K (.ref f26) = true)
    {f27 : Addr} {od27 an27 : Option Addr} {sl27 : Array (Option Value)} {oc27 kV27 dc27 pm27 cd27 ct27 : Value} (a27 : PySem.W.nsIn K mainGlobals "_law_reach" = some (some (.ref f27))) (l27 : K.lookup f27 = some ⟨oc27, od27, .func (PySem.W.fnOf "_law_reach" "_law_reach" (defArgs s__law_reach) (defBody s__law_reach) (defScope s__law_reach) .none kV27 dc27 pm27 an27 cd27 ct27), sl27⟩) (c27 : PySem.W.codeIn K cd27 "_law_reach" = true) (k27 : PySem.W.keepIn K (.ref f27) = true)
    {f28 : Addr} {od28 an28 : Option Addr} {sl28 : Array (Option Value)} {oc28 kV28 dc28 pm28 cd28 ct28 : Value} (a28 : PySem.W.nsIn K mainGlobals "_law_changes" = some (some (.ref f28))) (l28 : K.lookup f28 = some ⟨oc28, od28, .func (PySem.W.fnOf "_law_changes" "_law_changes" (defArgs s__law_changes) (defBody s__law_changes) (defScope s__law_changes) .none kV28 dc28 pm28 an28 cd28 ct28), sl28⟩) (c28 : PySem.W.codeIn K cd28 "_law_changes" = true) (k28 : PySem.W.keepIn K (.ref f28) = true)
    {f29 : Addr} {od29 an29 : Option Addr} {sl29 : Array (Option Value)} {oc29 kV29 dc29 pm29 cd29 ct29 : Value} (a29 : PySem.W.nsIn K mainGlobals "_law_sure" = some (some (.ref f29))) (l29 : K.lookup f29 = some ⟨oc29, od29, .func (PySem.W.fnOf "_law_sure" "_law_sure" (defArgs s__law_sure) (defBody s__law_sure) (defScope s__law_sure) .none kV29 dc29 pm29 an29 cd29 ct29), sl29⟩) (c29 : PySem.W.codeIn K cd29 "_law_sure" = true) (k29 : PySem.W.keepIn K (.ref f29) = true)
    {f30 : Addr} {od30 an30 : Option Addr} {sl30 : Array (Option Value)} {oc30 kV30 dc30 pm30 cd30 ct30 : Value} (a30 : PySem.W.nsIn K mainGlobals "_law_cells" = some (some (.ref f30))) (l30 : K.lookup f30 = some ⟨oc30, od30, .func (PySem.W.fnOf "_law_cells" "_law_cells" (defArgs s__law_cells) (defBody s__law_cells) (defScope s__law_cells) .none kV30 dc30 pm30 an30 cd30 ct30), sl30⟩) (c30 : PySem.W.codeIn K cd30 "_law_cells" = true) (k30 : PySem.W.keepIn K (.ref f30) = true)
    {f31 : Addr} {od31 an31 : Option Addr} {sl31 : Array (Option Value)} {oc31 kV31 dc31 pm31 cd31 ct31 : Value} (a31 : PySem.W.nsIn K mainGlobals "_law_spoil" = some (some (.ref f31))) (l31 : K.lookup f31 = some ⟨oc31, od31, .func (PySem.W.fnOf "_law_spoil" "_law_spoil" (defArgs s__law_spoil) (defBody s__law_spoil) (defScope s__law_spoil) .none kV31 dc31 pm31 an31 cd31 ct31), sl31⟩) (c31 : PySem.W.codeIn K cd31 "_law_spoil" = true) (k31 : PySem.W.keepIn K (.ref f31) = true)
    {f32 : Addr} {od32 an32 : Option Addr} {sl32 : Array (Option Value)} {oc32 kV32 dc32 pm32 cd32 ct32 : Value} (a32 : PySem.W.nsIn K mainGlobals "_law_takes" = some (some (.ref f32))) (l32 : K.lookup f32 = some ⟨oc32, od32, .func (PySem.W.fnOf "_law_takes" "_law_takes" (defArgs s__law_takes) (defBody s__law_takes) (defScope s__law_takes) .none kV32 dc32 pm32 an32 cd32 ct32), sl32⟩) (c32 : PySem.W.codeIn K cd32 "_law_takes" = true) (k32 : PySem.W.keepIn K (.ref f32) = true)
    {f33 : Addr} {od33 an33 : Option Addr} {sl33 : Array (Option Value)} {oc33 kV33 dc33 pm33 cd33 ct33 : Value} (a33 : PySem.W.nsIn K mainGlobals "law" = some (some (.ref f33))) (l33 : K.lookup f33 = some ⟨oc33, od33, .func (PySem.W.fnOf "law" "law" (defArgs s_law) (defBody s_law) (defScope s_law) .none kV33 dc33 pm33 an33 cd33 ct33), sl33⟩) (c33 : PySem.W.codeIn K cd33 "law" = true) (k33 : PySem.W.keepIn K (.ref f33) = true)
    {t0 : Tok} (cn0 : PySem.W.nsIn K mainGlobals "WAVE_MOST" = some (some (.int 1000000 t0)))
    {t1 : Tok} (cn1 : PySem.W.nsIn K mainGlobals "TURN" = some (some (.int 1296000 t1)))
    {t2 : Tok} (cn2 : PySem.W.nsIn K mainGlobals "HALF_TURN" = some (some (.int 648000 t2)))
    {t3 : Tok} (cn3 : PySem.W.nsIn K mainGlobals "QUARTER" = some (some (.int 324000 t3)))
    {t4 : Tok} (cn4 : PySem.W.nsIn K mainGlobals "ARCH_TOP" = some (some (.int 314928000000 t4)))
    {t5 : Tok} (cn5 : PySem.W.nsIn K mainGlobals "ARCH_SCALE" = some (some (.int 68024448000 t5)))
    (z0 : PySem.W.nsIn K mainGlobals "abs" = some none)
    (z1 : PySem.W.nsIn K mainGlobals "bool" = some none)
    (z2 : PySem.W.nsIn K mainGlobals "int" = some none)
    (z3 : PySem.W.nsIn K mainGlobals "isinstance" = some none)
    (z4 : PySem.W.nsIn K mainGlobals "len" = some none)
    (z5 : PySem.W.nsIn K mainGlobals "list" = some none)
    (z6 : PySem.W.nsIn K mainGlobals "min" = some none)
    (z7 : PySem.W.nsIn K mainGlobals "range" = some none)
    (z8 : PySem.W.nsIn K mainGlobals "sum" = some none)
    (z9 : PySem.W.nsIn K mainGlobals "tuple" = some none)
    : ∃ fd : FuncData, (∀ (s : Shared) (v : Value), BindsTo s fd ⟨[v], []⟩ [("script", v)]) ∧ ∀ base : Heap, K.In base → base.Ns mainGlobals mg → FnOk l.prog w K mg base CX0 30 fa fd ["script"] (spLaw K) := by
  have e := hfa.symm.trans (PySem.W.mg_of X G a33)
  cases e
  have F0 := fun_mk (st := s_reach) l0 c0 k0
  have b0 : L2.Binds K _ ["q", "k"] [] := F0.binds (ps := ["q", "k"]) fun _ _ _ _ _ _ us hl => match us, hl with | [_, _], _ => rfl
  have F1 := fun_mk (st := s_angle_reach) l1 c1 k1
  have b1 : L2.Binds K _ ["a", "k"] [] := F1.binds (ps := ["a", "k"]) fun _ _ _ _ _ _ us hl => match us, hl with | [_, _], _ => rfl
  have F2 := fun_mk (st := s__rounded_up) l2 c2 k2
  have b2 : L2.Binds K _ ["n", "d"] [] := F2.binds (ps := ["n", "d"]) fun _ _ _ _ _ _ us hl => match us, hl with | [_, _], _ => rfl
  have F3 := fun_mk (st := s__most_and_reach) l3 c3 k3
  have b3 : L2.Binds K _ ["q", "k"] [] := F3.binds (ps := ["q", "k"]) fun _ _ _ _ _ _ us hl => match us, hl with | [_, _], _ => rfl
  have F4 := fun_mk (st := s__uncapped) l4 c4 k4
  have b4 : L2.Binds K _ ["q", "k"] [] := F4.binds (ps := ["q", "k"]) fun _ _ _ _ _ _ us hl => match us, hl with | [_, _], _ => rfl
  have F5 := fun_mk (st := s__wave_reach) l5 c5 k5
  have b5 : L2.Binds K _ ["far"] [] := F5.binds (ps := ["far"]) fun _ _ _ _ _ _ us hl => match us, hl with | [_], _ => rfl
  have F6 := fun_mk (st := s_arch) l6 c6 k6
  have b6 : L2.Binds K _ ["u"] [] := F6.binds (ps := ["u"]) fun _ _ _ _ _ _ us hl => match us, hl with | [_], _ => rfl
  have F7 := fun_mk (st := s_wave) l7 c7 k7
  have b7 : L2.Binds K _ ["x"] [] := F7.binds (ps := ["x"]) fun _ _ _ _ _ _ us hl => match us, hl with | [_], _ => rfl
  have F8 := fun_mk (st := s_value) l8 c8 k8
  have b8 : L2.Binds K _ ["q", "t"] [] := F8.binds (ps := ["q", "t"]) fun _ _ _ _ _ _ us hl => match us, hl with | [_, _], _ => rfl
  have F9 := fun_mk (st := s_angle_value) l9 c9 k9
  have b9 : L2.Binds K _ ["a", "t"] [] := F9.binds (ps := ["a", "t"]) fun _ _ _ _ _ _ us hl => match us, hl with | [_, _], _ => rfl
  have F10 := fun_mk (st := s_takes) l10 c10 k10
  have b10 : L2.Binds K _ ["q", "start", "end", "cells"] [] := F10.binds (ps := ["q", "start", "end", "cells"]) fun _ _ _ _ _ _ us hl => match us, hl with | [_, _, _, _], _ => rfl
  have F11 := fun_mk (st := s_changes_of) l11 c11 k11
  have b11 : L2.Binds K _ ["q", "cells"] [] := F11.binds (ps := ["q", "cells"]) fun _ _ _ _ _ _ us hl => match us, hl with | [_, _], _ => rfl
  have F12 := fun_mk (st := s__covers) l12 c12 k12
  have b12 : L2.Binds K _ ["start", "end", "cells"] [] := F12.binds (ps := ["start", "end", "cells"]) fun _ _ _ _ _ _ us hl => match us, hl with | [_, _, _], _ => rfl
  have F13 := fun_mk (st := s__all_sure) l13 c13 k13
  have b13 : L2.Binds K _ ["q", "cells"] [] := F13.binds (ps := ["q", "cells"]) fun _ _ _ _ _ _ us hl => match us, hl with | [_, _], _ => rfl
  have F14 := fun_mk (st := s__law_start) l14 c14 k14
  have b14 : L2.Binds K _ ["script"] [] := F14.binds (ps := ["script"]) fun _ _ _ _ _ _ us hl => match us, hl with | [_], _ => rfl
  have F15 := fun_mk (st := s__law_draw) l15 c15 k15
  have b15 : L2.Binds K _ ["state", "bound"] [] := F15.binds (ps := ["state", "bound"]) fun _ _ _ _ _ _ us hl => match us, hl with | [_, _], _ => rfl
  have F16 := fun_mk (st := s__law_pick) l16 c16 k16
  have b16 : L2.Binds K _ ["state", "things"] [] := F16.binds (ps := ["state", "things"]) fun _ _ _ _ _ _ us hl => match us, hl with | [_, _], _ => rfl
  have F17 := fun_mk (st := s__law_is) l17 c17 k17
  have b17 : L2.Binds K _ ["actual", "due"] [] := F17.binds (ps := ["actual", "due"]) fun _ _ _ _ _ _ us hl => match us, hl with | [_, _], _ => rfl
  have F18 := fun_mk (st := s__law_wave_part) l18 c18 k18
  have b18 : L2.Binds K _ ["state"] [] := F18.binds (ps := ["state"]) fun _ _ _ _ _ _ us hl => match us, hl with | [_], _ => rfl
  have F19 := fun_mk (st := s__law_series) l19 c19 k19
  have b19 : L2.Binds K _ ["state"] [] := F19.binds (ps := ["state"]) fun _ _ _ _ _ _ us hl => match us, hl with | [_], _ => rfl
  have F20 := fun_mk (st := s__law_arch) l20 c20 k20
  have b20 : L2.Binds K _ ["u"] [] := F20.binds (ps := ["u"]) fun _ _ _ _ _ _ us hl => match us, hl with | [_], _ => rfl
  have F21 := fun_mk (st := s__law_wave) l21 c21 k21
  have b21 : L2.Binds K _ ["x"] [] := F21.binds (ps := ["x"]) fun _ _ _ _ _ _ us hl => match us, hl with | [_], _ => rfl
  have F22 := fun_mk (st := s__law_angle_at) l22 c22 k22
  have b22 : L2.Binds K _ ["a", "t"] [] := F22.binds (ps := ["a", "t"]) fun _ _ _ _ _ _ us hl => match us, hl with | [_, _], _ => rfl
  have F23 := fun_mk (st := s__law_value) l23 c23 k23
  have b23 : L2.Binds K _ ["q", "t"] [] := F23.binds (ps := ["q", "t"]) fun _ _ _ _ _ _ us hl => match us, hl with | [_, _], _ => rfl
  have F24 := fun_mk (st := s__law_up) l24 c24 k24
  have b24 : L2.Binds K _ ["number", "divisor"] [] := F24.binds (ps := ["number", "divisor"]) fun _ _ _ _ _ _ us hl => match us, hl with | [_, _], _ => rfl
  have F25 := fun_mk (st := s__law_most) l25 c25 k25
  have b25 : L2.Binds K _ ["q"] [] := F25.binds (ps := ["q"]) fun _ _ _ _ _ _ us hl => match us, hl with | [_], _ => rfl
  have F26 := fun_mk (st := s__law_angle_reach) l26 c26 k26
  have b26 : L2.Binds K _ ["a", "k"] [] := F26.binds (ps := ["a", "k"]) fun _ _ _ _ _ _ us hl => match us, hl with | [_, _], _ => rfl
  have F27 := fun_mk (st := s__law_reach) l27 c27 k27
  have b27 : L2.Binds K _ ["q", "k"] [] := F27.binds (ps := ["q", "k"]) fun _ _ _ _ _ _ us hl => match us, hl with | [_, _], _ => rfl
  have F28 := fun_mk (st := s__law_changes) l28 c28 k28
  have b28 : L2.Binds K _ ["q", "start", "end"] [] := F28.binds (ps := ["q", "start", "end"]) fun _ _ _ _ _ _ us hl => match us, hl with | [_, _, _], _ => rfl
  have F29 := fun_mk (st := s__law_sure) l29 c29 k29
  have b29 : L2.Binds K _ ["q", "t", "k"] [] := F29.binds (ps := ["q", "t", "k"]) fun _ _ _ _ _ _ us hl => match us, hl with | [_, _, _], _ => rfl
  have F30 := fun_mk (st := s__law_cells) l30 c30 k30
  have b30 : L2.Binds K _ ["state", "q", "start", "end"] [] := F30.binds (ps := ["state", "q", "start", "end"]) fun _ _ _ _ _ _ us hl => match us, hl with | [_, _, _, _], _ => rfl
  have F31 := fun_mk (st := s__law_spoil) l31 c31 k31
  have b31 : L2.Binds K _ ["state", "cells"] [] := F31.binds (ps := ["state", "cells"]) fun _ _ _ _ _ _ us hl => match us, hl with | [_, _], _ => rfl
  have F32 := fun_mk (st := s__law_takes) l32 c32 k32
  have b32 : L2.Binds K _ ["q", "start", "end", "cells"] [] := F32.binds (ps := ["q", "start", "end", "cells"]) fun _ _ _ _ _ _ us hl => match us, hl with | [_, _, _, _], _ => rfl
  have F33 := fun_mk (st := s_law) l33 c33 k33
  have b33 : L2.Binds K _ ["script"] [] := F33.binds (ps := ["script"]) fun _ _ _ _ _ _ us hl => match us, hl with | [_], _ => rfl
  have T : Txt K mg := ⟨⟨_, PySem.W.mg_of X G cn0⟩, ⟨_, PySem.W.mg_of X G cn1⟩, ⟨_, PySem.W.mg_of X G cn2⟩, ⟨_, PySem.W.mg_of X G cn3⟩, ⟨_, PySem.W.mg_of X G cn4⟩, ⟨_, PySem.W.mg_of X G cn5⟩, PySem.W.mg_none_of X G z0, PySem.W.mg_none_of X G z1, PySem.W.mg_none_of X G z2, PySem.W.mg_none_of X G z3, PySem.W.mg_none_of X G z4, PySem.W.mg_none_of X G z5, PySem.W.mg_none_of X G z6, PySem.W.mg_none_of X G z7, PySem.W.mg_none_of X G z8, PySem.W.mg_none_of X G z9, ⟨_, _, F0, PySem.W.mg_of X G a0, b0⟩, ⟨_, _, F1, PySem.W.mg_of X G a1, b1⟩, ⟨_, _, F2, PySem.W.mg_of X G a2, b2⟩, ⟨_, _, F3, PySem.W.mg_of X G a3, b3⟩, ⟨_, _, F4, PySem.W.mg_of X G a4, b4⟩, ⟨_, _, F5, PySem.W.mg_of X G a5, b5⟩, ⟨_, _, F6, PySem.W.mg_of X G a6, b6⟩, ⟨_, _, F7, PySem.W.mg_of X G a7, b7⟩, ⟨_, _, F8, PySem.W.mg_of X G a8, b8⟩, ⟨_, _, F9, PySem.W.mg_of X G a9, b9⟩, ⟨_, _, F10, PySem.W.mg_of X G a10, b10⟩, ⟨_, _, F11, PySem.W.mg_of X G a11, b11⟩, ⟨_, _, F12, PySem.W.mg_of X G a12, b12⟩, ⟨_, _, F13, PySem.W.mg_of X G a13, b13⟩, ⟨_, _, F14, PySem.W.mg_of X G a14, b14⟩, ⟨_, _, F15, PySem.W.mg_of X G a15, b15⟩, ⟨_, _, F16, PySem.W.mg_of X G a16, b16⟩, ⟨_, _, F17, PySem.W.mg_of X G a17, b17⟩, ⟨_, _, F18, PySem.W.mg_of X G a18, b18⟩, ⟨_, _, F19, PySem.W.mg_of X G a19, b19⟩, ⟨_, _, F20, PySem.W.mg_of X G a20, b20⟩, ⟨_, _, F21, PySem.W.mg_of X G a21, b21⟩, ⟨_, _, F22, PySem.W.mg_of X G a22, b22⟩, ⟨_, _, F23, PySem.W.mg_of X G a23, b23⟩, ⟨_, _, F24, PySem.W.mg_of X G a24, b24⟩, ⟨_, _, F25, PySem.W.mg_of X G a25, b25⟩, ⟨_, _, F26, PySem.W.mg_of X G a26, b26⟩, ⟨_, _, F27, PySem.W.mg_of X G a27, b27⟩, ⟨_, _, F28, PySem.W.mg_of X G a28, b28⟩, ⟨_, _, F29, PySem.W.mg_of X G a29, b29⟩, ⟨_, _, F30, PySem.W.mg_of X G a30, b30⟩, ⟨_, _, F31, PySem.W.mg_of X G a31, b31⟩, ⟨_, _, F32, PySem.W.mg_of X G a32, b32⟩, ⟨_, _, F33, PySem.W.mg_of X G a33, b33⟩⟩
  exact ⟨_, fun s v => .of_eq rfl, fun base _ _ => ok_law T F33⟩
end K07
open PySem PySem.W PyProof.Rows
set_option maxRecDepth 100000 in
set_option maxHeartbeats 0 in
theorem PySem.Challenge.cw_truealmanac_k07_whole_judge_of_papers_holds : PySem.Challenge.rw_truealmanac_k07_whole_judge_of_papers.Holds := by
  w_on; o_law; k_head; (case hw => w_witness2)
  k_fill
  refine L2.walk_of (l := PySem.Challenge.rw_truealmanac_k07_whole_judge_of_papers) (n := 63) (k := 30) (x := "script") (CX := fun _ => L2.CX0) (sp := fun w => K07.spLaw _) rfl (by decide) rfl ⟨rfl, by decide, by decide⟩ (fun w h Y => PySem.W.kIn_of Y) ?F (fun _ _ a ns hl _ hS => ⟨a, ns, rfl, hS, hl, fun _ => rfl⟩) (fun _ _ _ _ _ h => h)
  case F =>
    intro w mg fa h KX G hmg
    refine' K07.all_mk KX G hmg ?a0 ?l0 ?c0 ?k0 ?a1 ?l1 ?c1 ?k1 ?a2 ?l2 ?c2 ?k2 ?a3 ?l3 ?c3 ?k3 ?a4 ?l4 ?c4 ?k4 ?a5 ?l5 ?c5 ?k5 ?a6 ?l6 ?c6 ?k6 ?a7 ?l7 ?c7 ?k7 ?a8 ?l8 ?c8 ?k8 ?a9 ?l9 ?c9 ?k9 ?a10 ?l10 ?c10 ?k10 ?a11 ?l11 ?c11 ?k11 ?a12 ?l12 ?c12 ?k12 ?a13 ?l13 ?c13 ?k13 ?a14 ?l14 ?c14 ?k14 ?a15 ?l15 ?c15 ?k15 ?a16 ?l16 ?c16 ?k16 ?a17 ?l17 ?c17 ?k17 ?a18 ?l18 ?c18 ?k18 ?a19 ?l19 ?c19 ?k19 ?a20 ?l20 ?c20 ?k20 ?a21 ?l21 ?c21 ?k21 ?a22 ?l22 ?c22 ?k22 ?a23 ?l23 ?c23 ?k23 ?a24 ?l24 ?c24 ?k24 ?a25 ?l25 ?c25 ?k25 ?a26 ?l26 ?c26 ?k26 ?a27 ?l27 ?c27 ?k27 ?a28 ?l28 ?c28 ?k28 ?a29 ?l29 ?c29 ?k29 ?a30 ?l30 ?c30 ?k30 ?a31 ?l31 ?c31 ?k31 ?a32 ?l32 ?c32 ?k32 ?a33 ?l33 ?c33 ?k33 ?cn0 ?cn1 ?cn2 ?cn3 ?cn4 ?cn5 ?z0 ?z1 ?z2 ?z3 ?z4 ?z5 ?z6 ?z7 ?z8 ?z9
    (case a0 => k_is); (case l0 => k_is); (case c0 => k_is); (case k0 => k_is); (case a1 => k_is); (case l1 => k_is)
    (case c1 => k_is); (case k1 => k_is); (case a2 => k_is); (case l2 => k_is); (case c2 => k_is); (case k2 => k_is)
    (case a3 => k_is); (case l3 => k_is); (case c3 => k_is); (case k3 => k_is); (case a4 => k_is); (case l4 => k_is)
    (case c4 => k_is); (case k4 => k_is); (case a5 => k_is); (case l5 => k_is); (case c5 => k_is); (case k5 => k_is)
    (case a6 => k_is); (case l6 => k_is); (case c6 => k_is); (case k6 => k_is); (case a7 => k_is); (case l7 => k_is)
    (case c7 => k_is); (case k7 => k_is); (case a8 => k_is); (case l8 => k_is); (case c8 => k_is); (case k8 => k_is)
    (case a9 => k_is); (case l9 => k_is); (case c9 => k_is); (case k9 => k_is); (case a10 => k_is); (case l10 => k_is)
    (case c10 => k_is); (case k10 => k_is); (case a11 => k_is); (case l11 => k_is); (case c11 => k_is); (case k11 => k_is)
    (case a12 => k_is); (case l12 => k_is); (case c12 => k_is); (case k12 => k_is); (case a13 => k_is); (case l13 => k_is)
    (case c13 => k_is); (case k13 => k_is); (case a14 => k_is); (case l14 => k_is); (case c14 => k_is); (case k14 => k_is)
    (case a15 => k_is); (case l15 => k_is); (case c15 => k_is); (case k15 => k_is); (case a16 => k_is); (case l16 => k_is)
    (case c16 => k_is); (case k16 => k_is); (case a17 => k_is); (case l17 => k_is); (case c17 => k_is); (case k17 => k_is)
    (case a18 => k_is); (case l18 => k_is); (case c18 => k_is); (case k18 => k_is); (case a19 => k_is); (case l19 => k_is)
    (case c19 => k_is); (case k19 => k_is); (case a20 => k_is); (case l20 => k_is); (case c20 => k_is); (case k20 => k_is)
    (case a21 => k_is); (case l21 => k_is); (case c21 => k_is); (case k21 => k_is); (case a22 => k_is); (case l22 => k_is)
    (case c22 => k_is); (case k22 => k_is); (case a23 => k_is); (case l23 => k_is); (case c23 => k_is); (case k23 => k_is)
    (case a24 => k_is); (case l24 => k_is); (case c24 => k_is); (case k24 => k_is); (case a25 => k_is); (case l25 => k_is)
    (case c25 => k_is); (case k25 => k_is); (case a26 => k_is); (case l26 => k_is); (case c26 => k_is); (case k26 => k_is)
    (case a27 => k_is); (case l27 => k_is); (case c27 => k_is); (case k27 => k_is); (case a28 => k_is); (case l28 => k_is)
    (case c28 => k_is); (case k28 => k_is); (case a29 => k_is); (case l29 => k_is); (case c29 => k_is); (case k29 => k_is)
    (case a30 => k_is); (case l30 => k_is); (case c30 => k_is); (case k30 => k_is); (case a31 => k_is); (case l31 => k_is)
    (case c31 => k_is); (case k31 => k_is); (case a32 => k_is); (case l32 => k_is); (case c32 => k_is); (case k32 => k_is)
    (case a33 => k_is); (case l33 => k_is); (case c33 => k_is); (case k33 => k_is); (case cn0 => k_is); (case cn1 => k_is)
    (case cn2 => k_is); (case cn3 => k_is); (case cn4 => k_is); (case cn5 => k_is); (case z0 => k_is); (case z1 => k_is)
    (case z2 => k_is); (case z3 => k_is); (case z4 => k_is); (case z5 => k_is); (case z6 => k_is); (case z7 => k_is)
    (case z8 => k_is); (case z9 => k_is)
