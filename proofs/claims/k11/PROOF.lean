import PyProof.Rows.All
import Wide.All
import OpenK.AllK
import Wide.FinOn
import HandS.ForMost
import HandS.Wide
import HandS.IsInst
import HandS.More
import HandS.Deep
import HandS.TupMul
import HandS.TupAny
import HandS.Zip
import HandS.Sort
import HandS.Star
import HandS.ForExc
import HandS.ExcInit
import HandS.ExcField
import KE.KTupSum
import HandS.Gcd
import HandS.TryOnly
import HandS.SortRule
import HandS.Iter
import HandS.Conv
import HandS.Strs
import HandS.SetFor
import HandS.SetBool
import HandS.WordsExc
import KE.SortData
import KE.KeyNested
import PySem.Challenge.RW_truealmanac_k11_fine_moments
set_option Elab.async false
set_option linter.all false
set_option maxRecDepth 100000
namespace Rd
open PySem PySem.Spec PyProof.Rows L2
/-! ### what is kept: all but the object at d -/
def But (d : Addr) (H H' : Hp) : Prop := ∀ b o, b ≠ d → H b = some o → H' b = some o
theorem But.refl {d : Addr} {H : Hp} : But d H H := fun _ _ _ h => h
theorem But.trans {d : Addr} {H H1 H2 : Hp} (a : But d H H1) (b : But d H1 H2) : But d H H2 := fun c o n h => b c o n (a c o n h)
theorem But.of {d : Addr} {H H' : Hp} (s : Same H H') : But d H H' := fun b o _ h => s b o h
theorem But.put {d : Addr} {H : Hp} {o : HO} : But d H (upd H d o) := fun b u n h => by rw [upd_ne n]; exact h
theorem But.new {d p : Addr} {H : Hp} {o : HO} (h : H p = none) : But d H (upd H p o) := fun b u _ e => by rw [upd_ne (ne_of_none e h)]; exact e
theorem But.seqL {d : Addr} {K : PySem.W.Frag} {H H' : Hp} {a : Addr} {xs : List V} (n : a ≠ d) (e : But d H H') (h : SqL K H a xs) : SqL K H' a xs := by
  rcases h with (h | ⟨o, h⟩) | h
  · exact .inl (.inl (e _ _ n h))
  · exact .inl (.inr ⟨o, e _ _ n h⟩)
  · exact .inr h
theorem But.seqT {d : Addr} {K : PySem.W.Frag} {H H' : Hp} {a : Addr} {xs : List V} (n : a ≠ d) (e : But d H H') (h : SqT K H a xs) : SqT K H' a xs := by
  rcases h with (h | ⟨o, h⟩) | h
  · exact .inl (.inl (e _ _ n h))
  · exact .inl (.inr ⟨o, e _ _ n h⟩)
  · exact .inr h
theorem _root_.L2.Same.seqT {K : PySem.W.Frag} {H H' : Hp} {a : Addr} {xs : List V} (e : Same H H') (h : SqT K H a xs) : SqT K H' a xs := by
  rcases h with (h | ⟨o, h⟩) | h
  · exact .inl (.inl (e _ _ h))
  · exact .inl (.inr ⟨o, e _ _ h⟩)
  · exact .inr h
theorem Same.put {H : Hp} {p : Addr} {o : HO} (h : H p = none) : Same H (upd H p o) := fun b u e => by rw [upd_ne (ne_of_none e h)]; exact e
theorem keep {H : Hp} {a p : Addr} {o u : HO} (np : H p = none) (h : H a = some u) : (upd H p o) a = some u := by rw [upd_ne (ne_of_none h np)]; exact h
theorem keepN {H : Hp} {a p : Addr} {o u : HO} (np : a ≠ p) (h : H a = some u) : (upd H p o) a = some u := by rw [upd_ne np]; exact h
theorem free {H : Hp} {p D : Addr} {o : HO} (h : (upd H p o) D = none) : H D = none := by
  by_cases e : D = p
  · subst e
    rw [upd_same] at h
    cases h
  · rw [upd_ne e] at h
    exact h
theorem Same.mut {H H' : Hp} {D : Addr} {o : HO} (s : Same H H') (n : H D = none) : Same H (upd H' D o) := fun b u e => by rw [upd_ne (ne_of_none e n)]; exact s _ _ e
theorem But.mut {d : Addr} {H H' : Hp} {D : Addr} {o : HO} (s : But d H H') (n : H D = none) : But d H (upd H' D o) := fun b u k e => by rw [upd_ne (ne_of_none e n)]; exact s _ _ k e
theorem set_z {α : Type} {x y : α} {xs : List α} : (x :: xs).set 0 y = y :: xs := rfl
theorem set_s {α : Type} {x y : α} {n : Nat} {xs ys : List α} (h : xs.set n y = ys) : (x :: xs).set (n + 1) y = x :: ys := by rw [← h]; rfl
/-! ### steps of a reading -/
def BLK (x : V) (H : Hp) (QB : Bool → Hp → Prop) : Prop := ∃ k, x = .bl k ∧ QB k H
def INT (xs : List V) (H : Hp) (Q : VK) : Prop := (∃ i, xs = [.int i] ∧ Q (.int i) H) ∨ ∃ k, xs = [.bl k] ∧ Q (.int (if k then 1 else 0)) H
def ABS (xs : List V) (H : Hp) (Q : VK) : Prop := ∃ i, xs = [.int i] ∧ Q (.int (if i < 0 then -i else i)) H
def MIN2 (xs : List V) (H : Hp) (Q : VK) : Prop := ∃ i j, xs = [.int i, .int j] ∧ Q (.int (if j < i then j else i)) H
def MAX2 (xs : List V) (H : Hp) (Q : VK) : Prop := ∃ i j, xs = [.int i, .int j] ∧ Q (.int (if j > i then j else i)) H
def LEN (K : PySem.W.Frag) (xs : List V) (H : Hp) (Q : VK) : Prop := ∃ p ys, xs = [.ref p] ∧ (SqL K H p ys ∨ SqT K H p ys) ∧ Q (.int ys.length) H
def NEW (mk : List V → HO) (xs : List V) (H : Hp) (Q : VK) : Prop := xs.length ≤ sizeLine ∧ ∀ p, H p = none → Q (.ref p) (upd H p (mk xs))
def DG (x y : V) (H : Hp) (Q : VK) : Prop := ∃ a v, x = .ref a ∧ DGet H a y (some v) ∧ Q v H
def DP (x y v : V) (H : Hp) (N : Hp → Prop) : Prop := ∃ a H4, x = .ref a ∧ DPut H a y v H4 ∧ N H4
def CALL (sp : Sp) (vs : List V) (H : Hp) (Q : VK) (E : XK) : Prop := sp (vs ++ []) H Q E
def SLOT (nx : L2.St → Hp → Prop) (σ : L2.St) (H : Hp) : Prop := nx σ H
section
variable {K : PySem.W.Frag} {σ σ' : L2.St} {H H' : Hp} {Q : VK} {QB : Bool → Hp → Prop} {QA : List V → Hp → Prop} {ta tb te tc : TE} {t u : TT} {tr : TA} {i j : Int} {v x y : V} {nx bk ct : L2.St → Hp → Prop} {rt : VK} {s1 s2 : TS} {b : Bool}
theorem start {t : TS} {D : Ends} {σ σ' : L2.St} (e : σ = σ') (q : t D σ' H) : t D σ H := by rw [e]; exact q
theorem var {i : Nat} (h : σ[i]? = some (some v)) (q : Q v H) : tVar i σ H Q := ⟨v, h, q⟩
theorem cst (q : Q v H) : tC v σ H Q := q
theorem op {r : R2} (q : ta σ H fun x H1 => tb σ H1 fun y H2 => r x y H2 Q) : tOp r ta tb σ H Q := q
theorem un {r : V → Hp → VK → Prop} (q : ta σ H fun x H1 => r x H1 Q) : tUn r ta σ H Q := q
theorem i0 {g : Int → Int → V} (q : Q (g i j) H) : rI0 g (.int i) (.int j) H Q := ⟨i, j, rfl, rfl, q⟩
theorem i1 {C : Int → Int → Prop} {g : Int → Int → V} (c : C i j) (q : Q (g i j) H) : rI C g (.int i) (.int j) H Q := ⟨i, j, rfl, rfl, c, q⟩
theorem u1 {g : Int → V} (q : Q (g i) H) : rU g (.int i) H Q := ⟨i, rfl, q⟩
theorem eqI (q : Q (.bl (decide (i = j))) H) : rEq (.int i) (.int j) H Q := ⟨rfl, by
  have e : decide (V.int i = V.int j) = decide (i = j) := by
    by_cases h : i = j
    · rw [decide_eq_true h, decide_eq_true (congrArg V.int h)]
    · rw [decide_eq_false h, decide_eq_false (fun z => h (V.int.inj z))]
  rw [e]; exact q⟩
theorem neI (q : Q (.bl (!decide (i = j))) H) : rNe (.int i) (.int j) H Q := ⟨rfl, by
  have e : decide (V.int i = V.int j) = decide (i = j) := by
    by_cases h : i = j
    · rw [decide_eq_true h, decide_eq_true (congrArg V.int h)]
    · rw [decide_eq_false h, decide_eq_false (fun z => h (V.int.inj z))]
  rw [e]; exact q⟩
theorem eqB {a b : Bool} (q : Q (.bl (decide (a = b))) H) : rEq (.bl a) (.bl b) H Q := ⟨rfl, by
  have e : decide (V.bl a = V.bl b) = decide (a = b) := by
    by_cases h : a = b
    · rw [decide_eq_true h, decide_eq_true (congrArg V.bl h)]
    · rw [decide_eq_false h, decide_eq_false (fun z => h (V.bl.inj z))]
  rw [e]; exact q⟩
theorem eqS {a b : Str} (q : Q (.bl (decide (a = b))) H) : rEq (.str a) (.str b) H Q := ⟨rfl, by
  have e : decide (V.str a = V.str b) = decide (a = b) := by
    by_cases h : a = b
    · rw [decide_eq_true h, decide_eq_true (congrArg V.str h)]
    · rw [decide_eq_false h, decide_eq_false (fun z => h (V.str.inj z))]
  rw [e]; exact q⟩
theorem neS {a b : Str} (q : Q (.bl (!decide (a = b))) H) : rNe (.str a) (.str b) H Q := ⟨rfl, by
  have e : decide (V.str a = V.str b) = decide (a = b) := by
    by_cases h : a = b
    · rw [decide_eq_true h, decide_eq_true (congrArg V.str h)]
    · rw [decide_eq_false h, decide_eq_false (fun z => h (V.str.inj z))]
  rw [e]; exact q⟩
theorem tst (q : te σ H fun x H' => BLK x H' QB) : tTest te σ H QB := q
theorem tB (q : te σ H fun x H' => BLK x H' QB) : L2.tB te σ H QB := q
theorem blk (q : QB b H) : BLK (V.bl b) H QB := ⟨b, rfl, q⟩
theorem tnot (q : t σ H fun c H1 => QB (!c) H1) : tNot t σ H QB := q
theorem tand (q : t σ H fun c H1 => if c = true then u σ H1 QB else QB false H1) : tAnd t u σ H QB := q
theorem tor (q : t σ H fun c H1 => if c = true then QB true H1 else u σ H1 QB) : tOr t u σ H QB := q
theorem andV (q : ta σ H fun x H1 => BLK x H1 fun c H1 => if c = true then tb σ H1 Q else Q (.bl false) H1) : tAndV ta tb σ H Q := q
theorem orV (q : ta σ H fun x H1 => BLK x H1 fun c H1 => if c = true then Q (.bl true) H1 else tb σ H1 Q) : tOrV ta tb σ H Q := q
theorem notV (q : ta σ H fun x H1 => BLK x H1 fun c H1 => Q (.bl (!c)) H1) : tNotV ta σ H Q := q
theorem ifE (q : t σ H fun c H1 => if c = true then ta σ H1 Q else tb σ H1 Q) : tIf t ta tb σ H Q := q
theorem chain {r r' : R2} (q : ta σ H fun x H1 => tb σ H1 fun y H2 => r x y H2 fun z H3 => BLK z H3 fun k H3 => if k = true then tc σ H3 fun w' H4 => r' y w' H4 Q else Q (.bl false) H3) : tChain r r' ta tb tc σ H Q := q
theorem ite {c A B : Prop} [Decidable c] (h1 : c → A) (h2 : ¬ c → B) : if decide c = true then A else B := by
  by_cases h : c
  · rw [decide_eq_true h, if_pos rfl]; exact h1 h
  · rw [decide_eq_false h, if_neg Bool.false_ne_true]; exact h2 h
theorem iteN {c A B : Prop} [Decidable c] (h1 : c → B) (h2 : ¬ c → A) : if (!decide c) = true then A else B := by
  by_cases h : c
  · rw [decide_eq_true h]; exact iteF (h1 h)
  · rw [decide_eq_false h]; exact iteT (h2 h)
theorem iteP {c A B : Prop} [Decidable c] (h : c) (q : A) : if decide c = true then A else B := by rw [decide_eq_true h]; exact iteT q
theorem iteM {c A B : Prop} [Decidable c] (h : ¬ c) (q : B) : if decide c = true then A else B := by rw [decide_eq_false h]; exact iteF q
theorem iteNP {c A B : Prop} [Decidable c] (h : c) (q : B) : if (!decide c) = true then A else B := by rw [decide_eq_true h]; exact iteF q
theorem iteNM {c A B : Prop} [Decidable c] (h : ¬ c) (q : A) : if (!decide c) = true then A else B := by rw [decide_eq_false h]; exact iteT q
theorem iteNt {A B : Prop} (q : B) : if (!true) = true then A else B := q
theorem iteNf {A B : Prop} (q : A) : if (!false) = true then A else B := iteT q
theorem anil (q : QA [] H) : tNil σ H QA := q
theorem acons (q : te σ H fun x H1 => tr σ H1 fun xs H2 => QA (x :: xs) H2) : tCons te tr σ H QA := q
theorem cb {r : List V → Hp → VK → Prop} (q : tr σ H fun vs H1 => r vs H1 Q) : tCB r tr σ H Q := q
theorem call {sp : Sp} {E : XK} (q : tr σ H fun vs H1 => CALL sp vs H1 Q E) : tCall sp [] E tr σ H Q := q
theorem cbInt (q : tr σ H fun vs H1 => INT vs H1 Q) : tCB (fun xs H Q => (∃ i, xs = [.int i] ∧ Q (.int i) H) ∨ ∃ k, xs = [.bl k] ∧ Q (.int (if k then 1 else 0)) H) tr σ H Q := q
theorem int1 (q : Q (.int i) H) : INT [V.int i] H Q := .inl ⟨i, rfl, q⟩
theorem cbAbs (q : tr σ H fun vs H1 => ABS vs H1 Q) : tCB (fun xs H Q => ∃ i, xs = [.int i] ∧ Q (.int (if i < 0 then -i else i)) H) tr σ H Q := q
theorem abs1 (q : Q (.int (if i < 0 then -i else i)) H) : ABS [V.int i] H Q := ⟨i, rfl, q⟩
theorem cbMin (q : tr σ H fun vs H1 => MIN2 vs H1 Q) : tCB (fun xs H Q => ∃ i j, xs = [.int i, .int j] ∧ Q (.int (if j < i then j else i)) H) tr σ H Q := q
theorem min2 (q : Q (.int (if j < i then j else i)) H) : MIN2 [V.int i, V.int j] H Q := ⟨i, j, rfl, q⟩
theorem cbMax (q : tr σ H fun vs H1 => MAX2 vs H1 Q) : tCB (fun xs H Q => ∃ i j, xs = [.int i, .int j] ∧ Q (.int (if j > i then j else i)) H) tr σ H Q := q
theorem max2 (q : Q (.int (if j > i then j else i)) H) : MAX2 [V.int i, V.int j] H Q := ⟨i, j, rfl, q⟩
theorem cbLen (q : tr σ H fun vs H1 => LEN K vs H1 Q) : tCB (fun xs H Q => ∃ p ys, xs = [.ref p] ∧ (SqL K H p ys ∨ SqT K H p ys) ∧ Q (.int ys.length) H) tr σ H Q := q
theorem lenL {a : Addr} {xs : List V} (h : SqL K H a xs) (q : Q (.int xs.length) H) : LEN K [V.ref a] H Q := ⟨a, xs, rfl, .inl h, q⟩
theorem lenT {a : Addr} {xs : List V} (h : SqT K H a xs) (q : Q (.int xs.length) H) : LEN K [V.ref a] H Q := ⟨a, xs, rfl, .inr h, q⟩
theorem ixL {a : Addr} {xs : List V} (h : SqL K H a xs) (e : atI xs i = some v) (q : Q v H) : rIxL K (.ref a) (.int i) H Q := ⟨a, xs, i, v, rfl, rfl, h, e, q⟩
theorem ixT {a : Addr} {xs : List V} (h : SqT K H a xs) (e : atI xs i = some v) (q : Q v H) : rIxT K (.ref a) (.int i) H Q := ⟨a, xs, i, v, rfl, rfl, h, e, q⟩
theorem lst (q : tr σ H fun xs H1 => NEW HO.lst xs H1 Q) : tLst tr σ H Q := q
theorem tup (q : tr σ H fun xs H1 => NEW HO.tup xs H1 Q) : tTup tr σ H Q := q
theorem new {mk : List V → HO} {xs : List V} (h : xs.length ≤ 1000) (q : ∀ p, H p = none → Q (.ref p) (upd H p (mk xs))) : NEW mk xs H Q := ⟨Nat.le_of_lt (small1000 h), q⟩
theorem dget {td ty : TE} (q : td σ H fun x H1 => ty σ H1 fun y H2 => DG x y H2 Q) : tDGet td ty σ H Q := q
theorem dgetS {a : Addr} {kvs : List (Key × V)} {z : Str} (h : H a = some (.dK kvs)) (hv : valV kvs (Sum.inr z : Key) = some v) (q : Q v H) : DG (.ref a) (.str z) H Q :=
  ⟨a, v, rfl, by rw [← hv]; exact DGet.k (k := Sum.inr z) h, q⟩
theorem cmulL (h : -18446744073709551616 < i) (h2 : i < 18446744073709551616) : CMul i j := .inl ⟨by omega, by omega⟩
theorem cmulR (h : -18446744073709551616 < j) (h2 : j < 18446744073709551616) : CMul i j := .inr ⟨by omega, by omega⟩
theorem cpow (h : 0 ≤ j) (h2 : j ≤ 1000000) (h3 : i.natAbs < 18446744073709551616) : CPow i j := ⟨h, h2, by omega⟩
theorem cdiv (h : 0 < j) (h2 : j < 18446744073709551616) : CDivW i j := wide_div (b := 64) h (by omega) (by decide) (by decide)
/-! statements -/
theorem seq (q : s1 ⟨s2 ⟨nx, rt, bk, ct⟩, rt, bk, ct⟩ σ H) : tSeq s1 s2 ⟨nx, rt, bk, ct⟩ σ H := q
theorem nxt (q : nx σ H) : tNext ⟨nx, rt, bk, ct⟩ σ H := q
theorem asg {i : Nat} (q : te σ H fun x H1 => SLOT nx (σ.set i (some x)) H1) : tAsg te (gName i) ⟨nx, rt, bk, ct⟩ σ H := q
theorem slot {σ' : L2.St} (e : σ = σ') (q : nx σ' H) : SLOT nx σ H := by rw [e]; exact q
theorem slot0 {z y : Option V} {r : L2.St} (q : nx (y :: r) H) : SLOT nx (List.set (z :: r) 0 y) H := q
theorem slot1 {x0 z y : Option V} {r : L2.St} (q : nx (x0 :: y :: r) H) : SLOT nx (List.set (x0 :: z :: r) 1 y) H := q
theorem slot2 {x0 x1 z y : Option V} {r : L2.St} (q : nx (x0 :: x1 :: y :: r) H) : SLOT nx (List.set (x0 :: x1 :: z :: r) 2 y) H := q
theorem slot3 {x0 x1 x2 z y : Option V} {r : L2.St} (q : nx (x0 :: x1 :: x2 :: y :: r) H) : SLOT nx (List.set (x0 :: x1 :: x2 :: z :: r) 3 y) H := q
theorem slot4 {x0 x1 x2 x3 z y : Option V} {r : L2.St} (q : nx (x0 :: x1 :: x2 :: x3 :: y :: r) H) : SLOT nx (List.set (x0 :: x1 :: x2 :: x3 :: z :: r) 4 y) H := q
theorem slot5 {x0 x1 x2 x3 x4 z y : Option V} {r : L2.St} (q : nx (x0 :: x1 :: x2 :: x3 :: x4 :: y :: r) H) : SLOT nx (List.set (x0 :: x1 :: x2 :: x3 :: x4 :: z :: r) 5 y) H := q
theorem slot6 {x0 x1 x2 x3 x4 x5 z y : Option V} {r : L2.St} (q : nx (x0 :: x1 :: x2 :: x3 :: x4 :: x5 :: y :: r) H) : SLOT nx (List.set (x0 :: x1 :: x2 :: x3 :: x4 :: x5 :: z :: r) 6 y) H := q
theorem slot7 {x0 x1 x2 x3 x4 x5 x6 z y : Option V} {r : L2.St} (q : nx (x0 :: x1 :: x2 :: x3 :: x4 :: x5 :: x6 :: y :: r) H) : SLOT nx (List.set (x0 :: x1 :: x2 :: x3 :: x4 :: x5 :: x6 :: z :: r) 7 y) H := q
theorem slot8 {x0 x1 x2 x3 x4 x5 x6 x7 z y : Option V} {r : L2.St} (q : nx (x0 :: x1 :: x2 :: x3 :: x4 :: x5 :: x6 :: x7 :: y :: r) H) : SLOT nx (List.set (x0 :: x1 :: x2 :: x3 :: x4 :: x5 :: x6 :: x7 :: z :: r) 8 y) H := q
theorem slot9 {x0 x1 x2 x3 x4 x5 x6 x7 x8 z y : Option V} {r : L2.St} (q : nx (x0 :: x1 :: x2 :: x3 :: x4 :: x5 :: x6 :: x7 :: x8 :: y :: r) H) : SLOT nx (List.set (x0 :: x1 :: x2 :: x3 :: x4 :: x5 :: x6 :: x7 :: x8 :: z :: r) 9 y) H := q
theorem slot10 {x0 x1 x2 x3 x4 x5 x6 x7 x8 x9 z y : Option V} {r : L2.St} (q : nx (x0 :: x1 :: x2 :: x3 :: x4 :: x5 :: x6 :: x7 :: x8 :: x9 :: y :: r) H) : SLOT nx (List.set (x0 :: x1 :: x2 :: x3 :: x4 :: x5 :: x6 :: x7 :: x8 :: x9 :: z :: r) 10 y) H := q
theorem slot11 {x0 x1 x2 x3 x4 x5 x6 x7 x8 x9 x10 z y : Option V} {r : L2.St} (q : nx (x0 :: x1 :: x2 :: x3 :: x4 :: x5 :: x6 :: x7 :: x8 :: x9 :: x10 :: y :: r) H) : SLOT nx (List.set (x0 :: x1 :: x2 :: x3 :: x4 :: x5 :: x6 :: x7 :: x8 :: x9 :: x10 :: z :: r) 11 y) H := q
theorem slot12 {x0 x1 x2 x3 x4 x5 x6 x7 x8 x9 x10 x11 z y : Option V} {r : L2.St} (q : nx (x0 :: x1 :: x2 :: x3 :: x4 :: x5 :: x6 :: x7 :: x8 :: x9 :: x10 :: x11 :: y :: r) H) : SLOT nx (List.set (x0 :: x1 :: x2 :: x3 :: x4 :: x5 :: x6 :: x7 :: x8 :: x9 :: x10 :: x11 :: z :: r) 12 y) H := q
theorem slot13 {x0 x1 x2 x3 x4 x5 x6 x7 x8 x9 x10 x11 x12 z y : Option V} {r : L2.St} (q : nx (x0 :: x1 :: x2 :: x3 :: x4 :: x5 :: x6 :: x7 :: x8 :: x9 :: x10 :: x11 :: x12 :: y :: r) H) : SLOT nx (List.set (x0 :: x1 :: x2 :: x3 :: x4 :: x5 :: x6 :: x7 :: x8 :: x9 :: x10 :: x11 :: x12 :: z :: r) 13 y) H := q
theorem slot14 {x0 x1 x2 x3 x4 x5 x6 x7 x8 x9 x10 x11 x12 x13 z y : Option V} {r : L2.St} (q : nx (x0 :: x1 :: x2 :: x3 :: x4 :: x5 :: x6 :: x7 :: x8 :: x9 :: x10 :: x11 :: x12 :: x13 :: y :: r) H) : SLOT nx (List.set (x0 :: x1 :: x2 :: x3 :: x4 :: x5 :: x6 :: x7 :: x8 :: x9 :: x10 :: x11 :: x12 :: x13 :: z :: r) 14 y) H := q
theorem slot15 {x0 x1 x2 x3 x4 x5 x6 x7 x8 x9 x10 x11 x12 x13 x14 z y : Option V} {r : L2.St} (q : nx (x0 :: x1 :: x2 :: x3 :: x4 :: x5 :: x6 :: x7 :: x8 :: x9 :: x10 :: x11 :: x12 :: x13 :: x14 :: y :: r) H) : SLOT nx (List.set (x0 :: x1 :: x2 :: x3 :: x4 :: x5 :: x6 :: x7 :: x8 :: x9 :: x10 :: x11 :: x12 :: x13 :: x14 :: z :: r) 15 y) H := q
theorem slot16 {x0 x1 x2 x3 x4 x5 x6 x7 x8 x9 x10 x11 x12 x13 x14 x15 z y : Option V} {r : L2.St} (q : nx (x0 :: x1 :: x2 :: x3 :: x4 :: x5 :: x6 :: x7 :: x8 :: x9 :: x10 :: x11 :: x12 :: x13 :: x14 :: x15 :: y :: r) H) : SLOT nx (List.set (x0 :: x1 :: x2 :: x3 :: x4 :: x5 :: x6 :: x7 :: x8 :: x9 :: x10 :: x11 :: x12 :: x13 :: x14 :: x15 :: z :: r) 16 y) H := q
theorem slot17 {x0 x1 x2 x3 x4 x5 x6 x7 x8 x9 x10 x11 x12 x13 x14 x15 x16 z y : Option V} {r : L2.St} (q : nx (x0 :: x1 :: x2 :: x3 :: x4 :: x5 :: x6 :: x7 :: x8 :: x9 :: x10 :: x11 :: x12 :: x13 :: x14 :: x15 :: x16 :: y :: r) H) : SLOT nx (List.set (x0 :: x1 :: x2 :: x3 :: x4 :: x5 :: x6 :: x7 :: x8 :: x9 :: x10 :: x11 :: x12 :: x13 :: x14 :: x15 :: x16 :: z :: r) 17 y) H := q
theorem slot18 {x0 x1 x2 x3 x4 x5 x6 x7 x8 x9 x10 x11 x12 x13 x14 x15 x16 x17 z y : Option V} {r : L2.St} (q : nx (x0 :: x1 :: x2 :: x3 :: x4 :: x5 :: x6 :: x7 :: x8 :: x9 :: x10 :: x11 :: x12 :: x13 :: x14 :: x15 :: x16 :: x17 :: y :: r) H) : SLOT nx (List.set (x0 :: x1 :: x2 :: x3 :: x4 :: x5 :: x6 :: x7 :: x8 :: x9 :: x10 :: x11 :: x12 :: x13 :: x14 :: x15 :: x16 :: x17 :: z :: r) 18 y) H := q
theorem slot19 {x0 x1 x2 x3 x4 x5 x6 x7 x8 x9 x10 x11 x12 x13 x14 x15 x16 x17 x18 z y : Option V} {r : L2.St} (q : nx (x0 :: x1 :: x2 :: x3 :: x4 :: x5 :: x6 :: x7 :: x8 :: x9 :: x10 :: x11 :: x12 :: x13 :: x14 :: x15 :: x16 :: x17 :: x18 :: y :: r) H) : SLOT nx (List.set (x0 :: x1 :: x2 :: x3 :: x4 :: x5 :: x6 :: x7 :: x8 :: x9 :: x10 :: x11 :: x12 :: x13 :: x14 :: x15 :: x16 :: x17 :: x18 :: z :: r) 19 y) H := q
theorem slot20 {x0 x1 x2 x3 x4 x5 x6 x7 x8 x9 x10 x11 x12 x13 x14 x15 x16 x17 x18 x19 z y : Option V} {r : L2.St} (q : nx (x0 :: x1 :: x2 :: x3 :: x4 :: x5 :: x6 :: x7 :: x8 :: x9 :: x10 :: x11 :: x12 :: x13 :: x14 :: x15 :: x16 :: x17 :: x18 :: x19 :: y :: r) H) : SLOT nx (List.set (x0 :: x1 :: x2 :: x3 :: x4 :: x5 :: x6 :: x7 :: x8 :: x9 :: x10 :: x11 :: x12 :: x13 :: x14 :: x15 :: x16 :: x17 :: x18 :: x19 :: z :: r) 20 y) H := q
theorem slot21 {x0 x1 x2 x3 x4 x5 x6 x7 x8 x9 x10 x11 x12 x13 x14 x15 x16 x17 x18 x19 x20 z y : Option V} {r : L2.St} (q : nx (x0 :: x1 :: x2 :: x3 :: x4 :: x5 :: x6 :: x7 :: x8 :: x9 :: x10 :: x11 :: x12 :: x13 :: x14 :: x15 :: x16 :: x17 :: x18 :: x19 :: x20 :: y :: r) H) : SLOT nx (List.set (x0 :: x1 :: x2 :: x3 :: x4 :: x5 :: x6 :: x7 :: x8 :: x9 :: x10 :: x11 :: x12 :: x13 :: x14 :: x15 :: x16 :: x17 :: x18 :: x19 :: x20 :: z :: r) 21 y) H := q
theorem slot22 {x0 x1 x2 x3 x4 x5 x6 x7 x8 x9 x10 x11 x12 x13 x14 x15 x16 x17 x18 x19 x20 x21 z y : Option V} {r : L2.St} (q : nx (x0 :: x1 :: x2 :: x3 :: x4 :: x5 :: x6 :: x7 :: x8 :: x9 :: x10 :: x11 :: x12 :: x13 :: x14 :: x15 :: x16 :: x17 :: x18 :: x19 :: x20 :: x21 :: y :: r) H) : SLOT nx (List.set (x0 :: x1 :: x2 :: x3 :: x4 :: x5 :: x6 :: x7 :: x8 :: x9 :: x10 :: x11 :: x12 :: x13 :: x14 :: x15 :: x16 :: x17 :: x18 :: x19 :: x20 :: x21 :: z :: r) 22 y) H := q
theorem slot23 {x0 x1 x2 x3 x4 x5 x6 x7 x8 x9 x10 x11 x12 x13 x14 x15 x16 x17 x18 x19 x20 x21 x22 z y : Option V} {r : L2.St} (q : nx (x0 :: x1 :: x2 :: x3 :: x4 :: x5 :: x6 :: x7 :: x8 :: x9 :: x10 :: x11 :: x12 :: x13 :: x14 :: x15 :: x16 :: x17 :: x18 :: x19 :: x20 :: x21 :: x22 :: y :: r) H) : SLOT nx (List.set (x0 :: x1 :: x2 :: x3 :: x4 :: x5 :: x6 :: x7 :: x8 :: x9 :: x10 :: x11 :: x12 :: x13 :: x14 :: x15 :: x16 :: x17 :: x18 :: x19 :: x20 :: x21 :: x22 :: z :: r) 23 y) H := q
theorem ret (q : te σ H rt) : tRet te ⟨nx, rt, bk, ct⟩ σ H := q
theorem retN (q : rt .non H) : tRetN ⟨nx, rt, bk, ct⟩ σ H := q
theorem ifS (q : t σ H fun b H1 => if b = true then s1 ⟨nx, rt, bk, ct⟩ σ H1 else s2 ⟨nx, rt, bk, ct⟩ σ H1) : tIfS t s1 s2 ⟨nx, rt, bk, ct⟩ σ H := q
theorem drop (q : te σ H fun _ H1 => nx σ H1) : tDrop te ⟨nx, rt, bk, ct⟩ σ H := q
theorem brk (q : bk σ H) : tBreak ⟨nx, rt, bk, ct⟩ σ H := q
theorem cnt (q : ct σ H) : tCont ⟨nx, rt, bk, ct⟩ σ H := q
theorem dput {td ty tv : TE} (q : tv σ H fun v H1 => td σ H1 fun x H2 => ty σ H2 fun y H3 => DP x y v H3 (nx σ)) : sDPut td ty tv ⟨nx, rt, bk, ct⟩ σ H := q
theorem dputS {a : Addr} {kvs kvs' : List (Key × V)} {z : Str} (h : H a = some (.dK kvs)) (hl : kvs.length ≤ 1000) (e : putK kvs (Sum.inr z : Key) v = kvs') {N : Hp → Prop} (q : N (upd H a (.dK kvs'))) : DP (V.ref a) (.str z) v H N :=
  ⟨a, _, rfl, by rw [← e]; exact DPut.k (k := Sum.inr z) h (small1000 hl), q⟩
/-! displays, comprehensions, loops -/
def DISP (p : Addr) (ps : List (V × V)) (H : Hp) (Q : VK) : Prop := H p = some (.dK []) ∧ ∃ kvs : List (Key × V), ps = kvs.map (fun kv => (kV kv.1, kv.2)) ∧ kvs.length ≤ 15 ∧ Q (.ref p) (upd H p (.dK (mergeK [] kvs)))
theorem disp {trs : List (TE × TE)} (q : ∀ p, H p = none → tPairs trs σ (upd H p (.dK [])) fun ps H2 => DISP p ps H2 Q) : tDisp trs σ H Q := q
theorem pnil {QP : List (V × V) → Hp → Prop} (q : QP [] H) : tPairs [] σ H QP := q
theorem pcons {tk tv : TE} {r : List (TE × TE)} {QP : List (V × V) → Hp → Prop} (q : tk σ H fun x H1 => tv σ H1 fun y H2 => tPairs r σ H2 fun ps H3 => QP ((x, y) :: ps) H3) : tPairs ((tk, tv) :: r) σ H QP := q
theorem dispK {p : Addr} {ps : List (V × V)} (kvs : List (Key × V)) (h : H p = some (.dK [])) (e : ps = kvs.map (fun kv => (kV kv.1, kv.2))) (hl : kvs.length ≤ 15) (q : Q (.ref p) (upd H p (.dK (mergeK [] kvs)))) : DISP p ps H Q := ⟨h, kvs, e, hl, q⟩
def LCL (K : PySem.W.Frag) (g : TG) (tt : TT) (te : TE) (vs : List Nat) (σ : L2.St) (x : V) (H : Hp) (Q : VK) : Prop := tLc (iList K (tC x)) g tt te vs σ H Q
def LCT (K : PySem.W.Frag) (g : TG) (tt : TT) (te : TE) (vs : List Nat) (σ : L2.St) (x : V) (H : Hp) (Q : VK) : Prop := tLc (iTup K (tC x)) g tt te vs σ H Q
def LCN (D : Addr) (N : Hp → Prop) (y : V) (H : Hp) : Prop := ∃ acc, H D = some (.lst acc) ∧ acc.length < sizeLine ∧ N (upd H D (.lst (acc ++ [y])))
def WIP (a b : L2.St) (N : Prop) : Prop := a = b ∧ N
theorem lcl {tl : TE} {g : TG} {vs : List Nat} (q : tl σ H fun x H1 => LCL K g t te vs σ x H1 Q) : tLc (iList K tl) g t te vs σ H Q := q
theorem lct {tl : TE} {g : TG} {vs : List Nat} (q : tl σ H fun x H1 => LCT K g t te vs σ x H1 Q) : tLc (iTup K tl) g t te vs σ H Q := q
theorem lclGo {a : Addr} {xs : List V} {g : TG} {vs : List Nat} {σ0 : L2.St} (e0 : wipe σ vs = σ0) (hS : SqL K H a xs) (Pv : Addr → Nat → Hp → Prop) (h0 : ∀ D, H D = none → Pv D 0 (upd H D (.lst []))) (hl : ∀ D i H', i ≤ xs.length → Pv D i H' → SqL K H' a xs)
    (hs : ∀ D i x H', xs[i]? = some x → Pv D i H' → g x σ0 H' fun σ2 H2 => WIP (wipe σ2 vs) σ0 (t σ2 H2 fun b H3 => if b = true then te σ2 H3 fun y H4 => LCN D (Pv D (i + 1)) y H4 else Pv D (i + 1) H3))
    (hd : ∀ D H', H D = none → Pv D xs.length H' → Q (.ref D) H') : LCL K g t te vs σ (.ref a) H Q := by
  subst e0
  exact ⟨a, rfl, ⟨xs, hS⟩, fun D nD => lc_list (Pv D) (h0 D nD) (hl D) (hs D) (fun H' => hd D H' nD)⟩
theorem lctGo {a : Addr} {xs : List V} {g : TG} {vs : List Nat} {σ0 : L2.St} (e0 : wipe σ vs = σ0) (hS : SqT K H a xs) (Pv : Addr → Nat → Hp → Prop) (h0 : ∀ D, H D = none → Pv D 0 (upd H D (.lst []))) (hl : ∀ D i H', i ≤ xs.length → Pv D i H' → SqT K H' a xs)
    (hs : ∀ D i x H', xs[i]? = some x → Pv D i H' → g x σ0 H' fun σ2 H2 => WIP (wipe σ2 vs) σ0 (t σ2 H2 fun b H3 => if b = true then te σ2 H3 fun y H4 => LCN D (Pv D (i + 1)) y H4 else Pv D (i + 1) H3))
    (hd : ∀ D H', H D = none → Pv D xs.length H' → Q (.ref D) H') : LCT K g t te vs σ (.ref a) H Q := by
  subst e0
  exact ⟨a, rfl, ⟨xs, hS⟩, fun D nD => lc_tup (Pv D) (h0 D nD) (hl D) (hs D) (fun H' => hd D H' nD)⟩
theorem lcn {D : Addr} {acc : List V} {N : Hp → Prop} (h : H D = some (.lst acc)) (hl : acc.length ≤ 1000) (q : N (upd H D (.lst (acc ++ [v])))) : LCN D N v H := ⟨acc, h, small1000 hl, q⟩
theorem wip {a b : L2.St} {N : Prop} (e : a = b) (q : N) : WIP a b N := ⟨e, q⟩
theorem gname {i : Nat} {N : L2.St → Hp → Prop} (q : SLOT N (σ.set i (some v)) H) : gName i v σ H N := q
theorem yes (q : QB true H) : tYes σ H QB := q
def FORL (K : PySem.W.Frag) (g : TG) (tb : TS) (D : Ends) (σ : L2.St) (x : V) (H : Hp) : Prop := tFor (iList K (tC x)) g tb D σ H
def FORT (K : PySem.W.Frag) (g : TG) (tb : TS) (D : Ends) (σ : L2.St) (x : V) (H : Hp) : Prop := tFor (iTup K (tC x)) g tb D σ H
def RNG1 (g : TG) (tb : TS) (D : Ends) (σ : L2.St) (vs : List V) (H : Hp) : Prop := tFor (iRng1 fun _ H Q => Q vs H) g tb D σ H
def RNG2 (g : TG) (tb : TS) (D : Ends) (σ : L2.St) (vs : List V) (H : Hp) : Prop := tFor (iRng2 fun _ H Q => Q vs H) g tb D σ H
theorem forl {tl : TE} {g : TG} {D : Ends} (q : tl σ H fun x H1 => FORL K g s1 D σ x H1) : tFor (iList K tl) g s1 D σ H := q
theorem fort {tl : TE} {g : TG} {D : Ends} (q : tl σ H fun x H1 => FORT K g s1 D σ x H1) : tFor (iTup K tl) g s1 D σ H := q
theorem forr {g : TG} {D : Ends} (q : tr σ H fun x H1 => RNG1 g s1 D σ x H1) : tFor (iRng1 tr) g s1 D σ H := q
theorem forr2 {g : TG} {D : Ends} (q : tr σ H fun x H1 => RNG2 g s1 D σ x H1) : tFor (iRng2 tr) g s1 D σ H := q
theorem forlGo {a : Addr} {xs : List V} {g : TG} (hS : SqL K H a xs) (Pv : Nat → L2.St → Hp → Prop) (h0 : Pv 0 σ H) (hl : ∀ i σ H, i ≤ xs.length → Pv i σ H → SqL K H a xs)
    (hs : ∀ i x σ H, xs[i]? = some x → Pv i σ H → g x σ H fun σ2 H2 => s1 ⟨Pv (i + 1), rt, nx, Pv (i + 1)⟩ σ2 H2) (hd : ∀ σ H, Pv xs.length σ H → nx σ H) : FORL K g s1 ⟨nx, rt, bk, ct⟩ σ (.ref a) H :=
  ⟨a, rfl, ⟨xs, hS⟩, for_list Pv h0 hl hs hd⟩
theorem fortGo {a : Addr} {xs : List V} {g : TG} (hS : SqT K H a xs) (Pv : Nat → L2.St → Hp → Prop) (h0 : Pv 0 σ H) (hl : ∀ i σ H, i ≤ xs.length → Pv i σ H → SqT K H a xs)
    (hs : ∀ i x σ H, xs[i]? = some x → Pv i σ H → g x σ H fun σ2 H2 => s1 ⟨Pv (i + 1), rt, nx, Pv (i + 1)⟩ σ2 H2) (hd : ∀ σ H, Pv xs.length σ H → nx σ H) : FORT K g s1 ⟨nx, rt, bk, ct⟩ σ (.ref a) H :=
  ⟨a, rfl, ⟨xs, hS⟩, for_tup Pv h0 hl hs hd⟩
theorem rngGo {n : Int} {g : TG} (hn : n < 4611686018427387904) (Pv : Nat → L2.St → Hp → Prop) (h0 : Pv 0 σ H)
    (hs : ∀ (i : Nat) σ H, (i : Int) < n → Pv i σ H → g (.int i) σ H fun σ2 H2 => s1 ⟨Pv (i + 1), rt, nx, Pv (i + 1)⟩ σ2 H2) (hd : ∀ σ H, Pv n.toNat σ H → nx σ H) (hn0 : -4611686018427387904 ≤ n) : RNG1 g s1 ⟨nx, rt, bk, ct⟩ σ [.int n] H :=
  ⟨n, rfl, by omega, by omega, for_range (lo := 0) (n := n.toNat) Pv h0 (fun i σ' H' hi p => by
    have e0 : (0 : Int) + (i : Int) = (i : Int) := Int.zero_add _
    rw [e0]
    exact hs i σ' H' (by omega) p) hd⟩
theorem rng2Go {lo n : Int} {g : TG} (hn : -4611686018427387904 ≤ lo ∧ lo < 4611686018427387904 ∧ -4611686018427387904 ≤ n ∧ n < 4611686018427387904) (Pv : Nat → L2.St → Hp → Prop) (h0 : Pv 0 σ H)
    (hs : ∀ (i : Nat) σ H, lo + (i : Int) < n → Pv i σ H → g (.int (lo + i)) σ H fun σ2 H2 => s1 ⟨Pv (i + 1), rt, nx, Pv (i + 1)⟩ σ2 H2) (hd : ∀ σ H, Pv (n - lo).toNat σ H → nx σ H) : RNG2 g s1 ⟨nx, rt, bk, ct⟩ σ [.int lo, .int n] H :=
  ⟨lo, n, rfl, ⟨by omega, by omega, by omega, by omega⟩, for_range (lo := lo) (n := (n - lo).toNat) Pv h0 (fun i σ' H' hi p => hs i σ' H' (by omega) p) hd⟩
theorem isi {x : V} {ty : Value} {n : String} {b : Bool} (h : TyX K H x ty) (e : PySem.W.kitOne K ty (.type n) = some b) (q : Q (.bl b) H) : rIsi K [x, .ty n] H Q := ⟨x, .ty n, ty, .type n, b, rfl, .ty n, h, e, q⟩
/-! tuples, slices, sums, comprehensions that change nothing -/
theorem at0 {α : Type} {x : α} {xs : List α} : atI (x :: xs) 0 = some x := atI_nat (j := 0) rfl
theorem at1 {α : Type} {x y : α} {xs : List α} : atI (x :: y :: xs) 1 = some y := atI_nat (j := 1) rfl
theorem at2 {α : Type} {x y z : α} {xs : List α} : atI (x :: y :: z :: xs) 2 = some z := atI_nat (j := 2) rfl
theorem at3 {α : Type} {x y z u : α} {xs : List α} : atI (x :: y :: z :: u :: xs) 3 = some u := atI_nat (j := 3) rfl
theorem at4 {α : Type} {x y z u v : α} {xs : List α} : atI (x :: y :: z :: u :: v :: xs) 4 = some v := atI_nat (j := 4) rfl
def PART (x : V) (H : Hp) (QO : Option Int → Hp → Prop) : Prop := ∃ i, x = .int i ∧ QO (some i) H
theorem sl {r : V → Option Int → Option Int → Hp → VK → Prop} {tl th : TO} (q : te σ H fun x H1 => tl σ H1 fun l H2 => th σ H2 fun u H3 => r x l u H3 Q) : tSl r te tl th σ H Q := q
theorem part {QO : Option Int → Hp → Prop} (q : te σ H fun x H1 => PART x H1 QO) : tPart te σ H QO := q
theorem part1 {QO : Option Int → Hp → Prop} (q : QO (some i) H) : PART (.int i) H QO := ⟨i, rfl, q⟩
theorem nopart {QO : Option Int → Hp → Prop} (q : QO none H) : tNoPart σ H QO := q
theorem cut1 (x : V) (xs : List V) : cutV (x :: xs) (some 1) none = xs := by
  unfold cutV
  rw [show HT.sIx (x :: xs).length 0 (some 1) = min 1 (x :: xs).length from HT.sIx_nat _ 0 1, HT.sIx_none, List.length_cons, show min 1 (xs.length + 1) = 1 by omega]
  show List.take (xs.length + 1 - 1) xs = xs
  rw [Nat.add_sub_cancel]
  exact List.take_length
theorem slT1 {a : Addr} {xs : List V} (hS : SqT K H a (x :: xs)) (q : ∀ p, H p = none → Q (.ref p) (upd H p (.tup xs))) : rSlT K (.ref a) (some 1) none H Q := by
  refine ⟨a, _, rfl, hS, ?_, ?_⟩
  · intro z
    have h1 := z.1
    rw [show HT.sIx (x :: xs).length 0 (some 1) = min 1 (x :: xs).length from HT.sIx_nat _ 0 1, List.length_cons] at h1
    omega
  · rw [cut1]
    exact q
theorem slL1 {a : Addr} {xs : List V} (hS : SqL K H a (x :: xs)) (q : ∀ p, H p = none → Q (.ref p) (upd H p (.lst xs))) : rSlL K (.ref a) (some 1) none H Q := by
  refine ⟨a, _, rfl, hS, ?_⟩
  rw [cut1]
  exact q
theorem sum1 {a : Addr} {ns : List Int} (hS : SqL K H a (ns.map V.int)) (q : Q (.int ns.sum) H) : rSum K [.ref a] H Q := ⟨a, ns, rfl, hS, q⟩
theorem any1 {a : Addr} {bs : List Bool} (hS : SqL K H a (bs.map V.bl)) (q : Q (.bl (bs.any id)) H) : rAny K [.ref a] H Q := ⟨a, bs, rfl, hS, q⟩
theorem all1 {a : Addr} {bs : List Bool} (hS : SqL K H a (bs.map V.bl)) (q : Q (.bl (bs.all id)) H) : rAll K [.ref a] H Q := ⟨a, bs, rfl, hS, q⟩
theorem catT {a c : Addr} {xs ys : List V} (ha : SqT K H a (x :: xs)) (hc : SqT K H c (y :: ys)) (hl : xs.length + ys.length ≤ 900) (q : ∀ p, H p = none → Q (.ref p) (upd H p (.tup (x :: xs ++ y :: ys)))) : rCatT K (.ref a) (.ref c) H Q :=
  ⟨a, c, _, _, rfl, rfl, ha, hc, List.cons_ne_nil _ _, Nat.le_of_lt (small1000 (by rw [List.length_cons, List.length_cons]; omega)), fun z => absurd z (List.cons_ne_nil _ _), fun _ => q⟩
def TUPO (K : PySem.W.Frag) (xs : List V) (H : Hp) (Q : VK) : Prop := ∃ p ys, xs = [.ref p] ∧ ((SqL K H p ys ∧ ∀ l, H l = none → Q (.ref l) (upd H l (.tup ys))) ∨ (SqT K H p ys ∧ Q (.ref p) H))
theorem cbTup (q : tr σ H fun vs H1 => TUPO K vs H1 Q) : tCB (fun xs H Q => ∃ p ys, xs = [.ref p] ∧ ((SqL K H p ys ∧ ∀ l, H l = none → Q (.ref l) (upd H l (.tup ys))) ∨ (SqT K H p ys ∧ Q (.ref p) H))) tr σ H Q := q
theorem tupL {a : Addr} {xs : List V} (h : SqL K H a xs) (q : ∀ l, H l = none → Q (.ref l) (upd H l (.tup xs))) : TUPO K [.ref a] H Q := ⟨a, xs, rfl, .inl ⟨h, q⟩⟩
def LSTO (K : PySem.W.Frag) (xs : List V) (H : Hp) (Q : VK) : Prop := ∃ p ys, xs = [.ref p] ∧ (SqL K H p ys ∨ SqT K H p ys) ∧ ∀ l, H l = none → Q (.ref l) (upd H l (.lst ys))
theorem cbLst (q : tr σ H fun vs H1 => LSTO K vs H1 Q) : tCB (fun xs H Q => ∃ p ys, xs = [.ref p] ∧ (SqL K H p ys ∨ SqT K H p ys) ∧ ∀ l, H l = none → Q (.ref l) (upd H l (.lst ys))) tr σ H Q := q
theorem lstT {a : Addr} {xs : List V} (h : SqT K H a xs) (q : ∀ l, H l = none → Q (.ref l) (upd H l (.lst xs))) : LSTO K [.ref a] H Q := ⟨a, xs, rfl, .inr h, q⟩
theorem lstL {a : Addr} {xs : List V} (h : SqL K H a xs) (q : ∀ l, H l = none → Q (.ref l) (upd H l (.lst xs))) : LSTO K [.ref a] H Q := ⟨a, xs, rfl, .inl h, q⟩
theorem inI_eq (k : Int) : ∀ ns : List Int, inV (.int k) (ns.map V.int) = decide (k ∈ ns)
  | [] => by simp [inV]
  | n :: r => by
    have ih := inI_eq k r
    unfold inV at ih ⊢
    rw [List.map_cons, List.any_cons, ih]
    show ((n == k) || decide (k ∈ r)) = decide (k ∈ n :: r)
    by_cases h : k = n
    · subst h
      simp
    · have h2 : ¬ n = k := fun z => h z.symm
      simp [h, h2]
theorem inI {a : Addr} {xs : List V} (ns : List Int) {k : Int} (h : SqL K H a xs) (e : xs = ns.map V.int) (q : Q (.bl (decide (k ∈ ns))) H) : rIn K false (.int k) (.ref a) H Q := by
  subst e
  refine ⟨a, _, rfl, .inl h, rfl, ?_, ?_⟩
  · rw [List.all_map]
    exact List.all_eq_true.mpr fun _ _ => rfl
  · show Q (.bl (inV (.int k) (ns.map V.int))) H
    rw [inI_eq]
    exact q
theorem lcmap {D : Addr} {ys : List V} {i : Nat} {y : V} {H0 H' : Hp} (hl : ys.length ≤ 1000) (nD : H0 D = none) (e : ys[i]? = some y) (hD : H' D = some (.lst (ys.take i))) (sm : Same H0 H') :
    LCN D (fun H2 => H2 D = some (.lst (ys.take (i + 1))) ∧ Same H0 H2) y H' := by
  refine lcn hD (by rw [List.length_take]; omega) ⟨?_, Same.mut sm nD⟩
  rw [upd_same, List.take_add_one, e]
  rfl
/-- [te for x in a tuple], which makes ys and changes nothing -/
theorem lctMap {a : Addr} {xs ys : List V} {g : TG} {vs : List Nat} {σ0 : L2.St} (e0 : wipe σ vs = σ0) (hS : SqT K H a xs) (hl : ys.length = xs.length) (h1000 : ys.length ≤ 1000)
    (hs : ∀ (i : Nat) x y H' (N : VK), xs[i]? = some x → ys[i]? = some y → Same H H' → (∀ H4, Same H' H4 → N y H4) → g x σ0 H' fun σ2 H2 => WIP (wipe σ2 vs) σ0 (te σ2 H2 N))
    (hd : ∀ D H', H D = none → H' D = some (.lst ys) → Same H H' → Q (.ref D) H') : LCT K g tYes te vs σ (.ref a) H Q := by
  refine lctGo e0 hS (fun D i H' => H D = none ∧ H' D = some (.lst (ys.take i)) ∧ Same H H') (fun D nD => ⟨nD, upd_same, Same.put nD⟩) (fun D i H' _ h => h.2.2.seqT hS) (fun D i x H' hx h => ?_) (fun D H' nD h => hd D H' nD (by rw [← hl, List.take_length] at h; exact h.2.1) h.2.2)
  obtain ⟨nD, hD, sm⟩ := h
  have hi : i < ys.length := by rw [hl]; exact (List.getElem?_eq_some_iff.mp hx).1
  refine hs i x ys[i] H' _ hx (List.getElem?_eq_getElem hi) sm fun H4 s4 => ?_
  show LCN D _ ys[i] H4
  obtain ⟨acc, a1, a2, a3⟩ := lcmap (D := D) h1000 nD (List.getElem?_eq_getElem hi) (s4 _ _ hD) (sm.trans s4)
  exact ⟨acc, a1, a2, nD, a3⟩
theorem lclMap {a : Addr} {xs ys : List V} {g : TG} {vs : List Nat} {σ0 : L2.St} (e0 : wipe σ vs = σ0) (hS : SqL K H a xs) (hl : ys.length = xs.length) (h1000 : ys.length ≤ 1000)
    (hs : ∀ (i : Nat) x y H' (N : VK), xs[i]? = some x → ys[i]? = some y → Same H H' → (∀ H4, Same H' H4 → N y H4) → g x σ0 H' fun σ2 H2 => WIP (wipe σ2 vs) σ0 (te σ2 H2 N))
    (hd : ∀ D H', H D = none → H' D = some (.lst ys) → Same H H' → Q (.ref D) H') : LCL K g tYes te vs σ (.ref a) H Q := by
  refine lclGo e0 hS (fun D i H' => H D = none ∧ H' D = some (.lst (ys.take i)) ∧ Same H H') (fun D nD => ⟨nD, upd_same, Same.put nD⟩) (fun D i H' _ h => h.2.2.seq hS) (fun D i x H' hx h => ?_) (fun D H' nD h => hd D H' nD (by rw [← hl, List.take_length] at h; exact h.2.1) h.2.2)
  obtain ⟨nD, hD, sm⟩ := h
  have hi : i < ys.length := by rw [hl]; exact (List.getElem?_eq_some_iff.mp hx).1
  refine hs i x ys[i] H' _ hx (List.getElem?_eq_getElem hi) sm fun H4 s4 => ?_
  show LCN D _ ys[i] H4
  obtain ⟨acc, a1, a2, a3⟩ := lcmap (D := D) h1000 nD (List.getElem?_eq_getElem hi) (s4 _ _ hD) (sm.trans s4)
  exact ⟨acc, a1, a2, nD, a3⟩
def LCR1 (g : TG) (tt : TT) (te : TE) (vs : List Nat) (σ : L2.St) (xs : List V) (H : Hp) (Q : VK) : Prop := tLc (iRng1 fun _ H Q => Q xs H) g tt te vs σ H Q
theorem lcr1 {g : TG} {vs : List Nat} (q : tr σ H fun xs H1 => LCR1 g t te vs σ xs H1 Q) : tLc (iRng1 tr) g t te vs σ H Q := q
theorem lcr1Go {n : Int} {g : TG} {vs : List Nat} {σ0 : L2.St} (e0 : wipe σ vs = σ0) (hn : n < 4611686018427387904) (hn0 : -4611686018427387904 ≤ n) (Pv : Addr → Nat → Hp → Prop) (h0 : ∀ D, H D = none → Pv D 0 (upd H D (.lst [])))
    (hs : ∀ D (i : Nat) H', (i : Int) < n → Pv D i H' → g (.int i) σ0 H' fun σ2 H2 => WIP (wipe σ2 vs) σ0 (t σ2 H2 fun b H3 => if b = true then te σ2 H3 fun y H4 => LCN D (Pv D (i + 1)) y H4 else Pv D (i + 1) H3))
    (hd : ∀ D H', H D = none → Pv D n.toNat H' → Q (.ref D) H') : LCR1 g t te vs σ [.int n] H Q := by
  subst e0
  exact ⟨n, rfl, by omega, by omega, fun D nD => lc_range (lo := 0) (n := n.toNat) (Pv D) (h0 D nD) (fun i H' hi p => by
    have e0 : (0 : Int) + (i : Int) = (i : Int) := Int.zero_add _
    rw [e0]
    exact hs D i H' (by omega) p) (fun H' => hd D H' nD)⟩
theorem never {P : Program} {w : World} {mg : Str → Option Value} {base : Heap} {k : Nat} {f : Addr} {fd : FuncData} {ps : List Str} : FnOk P w K mg base CX0 k f fd ps (fun _ _ _ _ => False) := ⟨fun _ _ _ _ h => h.elim, fun _ _ _ _ _ _ _ _ _ _ _ _ _ h => h.elim⟩
/-! unpacking -/
def GTUP (K : PySem.W.Frag) (n : Nat) (gs : TGs) (x : V) (σ : L2.St) (H : Hp) (N : L2.St → Hp → Prop) : Prop := gTup K n gs x σ H N
theorem asgT {n : Nat} {gs : TGs} (q : te σ H fun x H1 => GTUP K n gs x σ H1 nx) : tAsg te (gTup K n gs) ⟨nx, rt, bk, ct⟩ σ H := q
theorem gtup {a : Addr} {xs : List V} {n : Nat} {gs : TGs} {N : L2.St → Hp → Prop} (hS : SqT K H a xs) (hl : xs.length = n) (q : gs xs σ H N) : GTUP K n gs (.ref a) σ H N := ⟨a, xs, rfl, hS, hl, q⟩
theorem gcons {g : TG} {gs : TGs} {r : List V} {N : L2.St → Hp → Prop} (q : g v σ H fun σ' H' => gs r σ' H' N) : gCons g gs (v :: r) σ H N := ⟨v, r, rfl, q⟩
theorem gnil {N : L2.St → Hp → Prop} (q : N σ H) : gNil [] σ H N := ⟨rfl, q⟩
theorem gtupV {n : Nat} {gs : TGs} {N : L2.St → Hp → Prop} (q : GTUP K n gs v σ H N) : gTup K n gs v σ H N := q
/-! dicts with ints, stores, methods of lists -/
theorem dnew (q : ∀ p, H p = none → Q (.ref p) (upd H p (.dK []))) : tDNewK σ H Q := q
def DN (y x : V) (H : Hp) (Q : VK) : Prop := ∃ a o, x = .ref a ∧ DGet H a y o ∧ Q (.bl (!o.isSome)) H
theorem dnotin {ty td : TE} (q : ty σ H fun y H1 => td σ H1 fun x H2 => DN y x H2 Q) : tDNotIn ty td σ H Q := q
theorem dnI {a : Addr} {kvs : List (Key × V)} {n : Int} (h : H a = some (.dK kvs)) (q : Q (.bl (!(valV kvs (Sum.inl n : Key)).isSome)) H) : DN (.int n) (.ref a) H Q := ⟨a, _, rfl, DGet.k (k := Sum.inl n) h, q⟩
theorem dgetI {a : Addr} {kvs : List (Key × V)} {n : Int} (h : H a = some (.dK kvs)) (hv : valV kvs (Sum.inl n : Key) = some v) (q : Q v H) : DG (.ref a) (.int n) H Q :=
  ⟨a, v, rfl, by rw [← hv]; exact DGet.k (k := Sum.inl n) h, q⟩
theorem dputI {a : Addr} {kvs : List (Key × V)} {n : Int} (h : H a = some (.dK kvs)) (hl : kvs.length ≤ 1000) {N : Hp → Prop} (q : N (upd H a (.dK (putK kvs (Sum.inl n : Key) v)))) : DP (V.ref a) (.int n) v H N :=
  ⟨a, _, rfl, DPut.k (k := Sum.inl n) h (small1000 hl), q⟩
def SETL (o i v : V) (H : Hp) (N : Hp → Prop) : Prop := rSetL o i v H N
theorem asgS {to ti : TE} (q : te σ H fun v H1 => to σ H1 fun o H2 => ti σ H2 fun i H3 => SETL o i v H3 (nx σ)) : tAsg te (gSub to ti rSetL) ⟨nx, rt, bk, ct⟩ σ H := q
theorem setL {a : Addr} {xs : List V} {k : Nat} {N : Hp → Prop} (h : H a = some (.lst xs)) (e : ixN xs.length i = some k) (q : N (upd H a (.lst (xs.set k v)))) : SETL (.ref a) (.int i) v H N := ⟨a, xs, i, k, rfl, rfl, h, e, q⟩
def BM (K : PySem.W.Frag) (T : String) (x : V) (H : Hp) (N : Prop) : Prop := tyV K T x H ∧ N
theorem bm {T : String} {r : V → List V → Hp → VK → Prop} {to : TE} (q : to σ H fun x H1 => BM K T x H1 (tr σ H1 fun xs H2 => r x xs H2 Q)) : tBM K T r to tr σ H Q := q
theorem bmL {a : Addr} {xs : List V} {N : Prop} (h : H a = some (.lst xs)) (q : N) : BM K "list" (.ref a) H N := ⟨.inl ⟨rfl, _, SqL.of h⟩, q⟩
theorem app {a : Addr} {xs : List V} (h : H a = some (.lst xs)) (hl : xs.length ≤ 1000) (q : Q .non (upd H a (.lst (xs ++ [y])))) : rAppend (.ref a) [y] H Q := ⟨a, xs, y, rfl, rfl, h, small1000 hl, q⟩
theorem popAt {a : Addr} {xs : List V} {k : Nat} (h : H a = some (.lst xs)) (h0 : 0 ≤ i) (h1 : i < 1000000) (e : seqIndex? i xs.length = some k) (hy : xs[k]? = some y) (q : Q y (upd H a (.lst (xs.eraseIdx k)))) : rPopAt (.ref a) [.int i] H Q := ⟨a, xs, i, k, y, rfl, rfl, h, by omega, by omega, e, hy, q⟩
def INS (x : V) (vs : List V) (H : Hp) (Q : VK) : Prop := ∃ (l : Addr) (xs : List V) (i : Int) (y : V), x = .ref l ∧ vs = [.int i, y] ∧ H l = some (.lst xs) ∧ xs.length < sizeLine ∧ 0 ≤ i ∧ i < 2 ^ 63 ∧ Q .non (upd H l (.lst (xs.take i.toNat ++ [y] ++ xs.drop i.toNat)))
theorem ins {a : Addr} {xs : List V} (h : H a = some (.lst xs)) (hl : xs.length ≤ 1000) (h0 : 0 ≤ i) (h1 : i < 1000000) (q : Q .non (upd H a (.lst (xs.take i.toNat ++ [y] ++ xs.drop i.toNat)))) : INS (.ref a) [.int i, y] H Q := ⟨a, xs, i, y, rfl, rfl, h, small1000 hl, h0, by omega, q⟩
theorem neB {a b : Bool} (q : Q (.bl (!decide (a = b))) H) : rNe (.bl a) (.bl b) H Q := ⟨rfl, by
  have e : decide (V.bl a = V.bl b) = decide (a = b) := by
    by_cases h : a = b
    · rw [decide_eq_true h, decide_eq_true (congrArg V.bl h)]
    · rw [decide_eq_false h, decide_eq_false (fun z => h (V.bl.inj z))]
  rw [e]; exact q⟩
def NOTN (x y : V) (H : Hp) (Q : VK) : Prop := y = .non ∧ Q (.bl (!decide (x = .non))) H
def ISN (x y : V) (H : Hp) (Q : VK) : Prop := y = .non ∧ Q (.bl (decide (x = .non))) H
theorem notn (q : ta σ H fun x H1 => tb σ H1 fun y H2 => NOTN x y H2 Q) : tOp (fun x y H Q => y = .non ∧ Q (.bl (!decide (x = .non))) H) ta tb σ H Q := q
theorem isn (q : ta σ H fun x H1 => tb σ H1 fun y H2 => ISN x y H2 Q) : tOp (fun x y H Q => y = .non ∧ Q (.bl (decide (x = .non))) H) ta tb σ H Q := q
theorem notnN (q : Q (.bl false) H) : NOTN .non .non H Q := ⟨rfl, by rw [decide_eq_true rfl]; exact q⟩
theorem notnB {b : Bool} (q : Q (.bl true) H) : NOTN (.bl b) .non H Q := ⟨rfl, by rw [decide_eq_false (fun z => by cases z)]; exact q⟩
theorem notnI {i : Int} (q : Q (.bl true) H) : NOTN (.int i) .non H Q := ⟨rfl, by rw [decide_eq_false (fun z => by cases z)]; exact q⟩
theorem isnN (q : Q (.bl true) H) : ISN .non .non H Q := ⟨rfl, by rw [decide_eq_true rfl]; exact q⟩
theorem isnI {i : Int} (q : Q (.bl false) H) : ISN (.int i) .non H Q := ⟨rfl, by rw [decide_eq_false (fun z => by cases z)]; exact q⟩
/-- an and whose parts change nothing: one way -/
def tAndS (ta tb : TE) : TE := tAndV ta tb
theorem pe_andS {X : Cx} {a b : Expr} {rest : List Expr} {pos : Pos} {ta tb : TE} (ha : PE X a ta) (hb : PE X (.BoolOp .And (b :: rest) pos) tb) : PE X (.BoolOp .And (a :: b :: rest) pos) (tAndS ta tb) := pe_and ha hb
theorem andS {b1 b2 : Bool} (h1 : ∀ Q' : VK, Q' (.bl b1) H → ta σ H Q') (h2 : ∀ Q' : VK, Q' (.bl b2) H → tb σ H Q') (q : Q (.bl (b1 && b2)) H) : tAndS ta tb σ H Q := by
  refine h1 _ ⟨b1, rfl, ?_⟩
  cases b1 with
  | true => rw [if_pos rfl]; exact h2 _ (by simpa using q)
  | false => rw [if_neg Bool.false_ne_true]; simpa using q
end
end Rd

set_option Elab.async false
set_option linter.all false
set_option maxRecDepth 100000
namespace Mi
open PySem PySem.Spec PyProof.Rows L2
abbrev D := PyData
def kD : Key → D
  | .inl i => .int i
  | .inr x => .str x
/-! ### what a value stands for -/
mutual
inductive Rp (K : PySem.W.Frag) (F : Hp) : V → D → Prop
  | non : Rp K F .non .none
  | bl (b : Bool) : Rp K F (.bl b) (.bool b)
  | int (i : Int) : Rp K F (.int i) (.int i)
  | str (x : Str) : Rp K F (.str x) (.str x)
  | lst {a : Addr} {xs : List V} {ds : List D} : F a = some (.lst xs) → RpA K F xs ds → Rp K F (.ref a) (.list ds)
  | scr {a : Addr} {xs : List V} {ds : List D} : SqL K F a xs → RpA K F xs ds → Rp K F (.ref a) (.dict [(.none, .list ds)])
  | tup {a : Addr} {xs : List V} {ds : List D} : SqT K F a xs → RpA K F xs ds → Rp K F (.ref a) (.tuple ds)
  | dic {a : Addr} {kvs : List (Key × V)} {ds : List (D × D)} : F a = some (.dK kvs) → RpK K F kvs ds → Rp K F (.ref a) (.dict ds)
inductive RpA (K : PySem.W.Frag) (F : Hp) : List V → List D → Prop
  | nil : RpA K F [] []
  | cons {v : V} {vs : List V} {d : D} {ds : List D} : Rp K F v d → RpA K F vs ds → RpA K F (v :: vs) (d :: ds)
inductive RpK (K : PySem.W.Frag) (F : Hp) : List (Key × V) → List (D × D) → Prop
  | nil : RpK K F [] []
  | cons {k : Key} {v : V} {vs : List (Key × V)} {d : D} {ds : List (D × D)} : Rp K F v d → RpK K F vs ds → RpK K F ((k, v) :: vs) ((kD k, d) :: ds)
end
section
variable {K : PySem.W.Frag} {F F' H : Hp}
mutual
theorem Rp.mono (s : Same F F') : ∀ {v : V} {d : D}, Rp K F v d → Rp K F' v d
  | _, _, .non => .non
  | _, _, .bl b => .bl b
  | _, _, .int i => .int i
  | _, _, .str x => .str x
  | _, _, .lst h r => .lst (s _ _ h) (RpA.mono s r)
  | _, _, .scr h r => .scr (s.seq h) (RpA.mono s r)
  | _, _, .tup h r => .tup (s.seqT h) (RpA.mono s r)
  | _, _, .dic h r => .dic (s _ _ h) (RpK.mono s r)
theorem RpA.mono (s : Same F F') : ∀ {v : List V} {d : List D}, RpA K F v d → RpA K F' v d
  | _, _, .nil => .nil
  | _, _, .cons h r => .cons (Rp.mono s h) (RpA.mono s r)
theorem RpK.mono (s : Same F F') : ∀ {v : List (Key × V)} {d : List (D × D)}, RpK K F v d → RpK K F' v d
  | _, _, .nil => .nil
  | _, _, .cons h r => .cons (Rp.mono s h) (RpK.mono s r)
end
theorem RpA.length : ∀ {v : List V} {d : List D}, RpA K F v d → v.length = d.length
  | _, _, .nil => rfl
  | _, _, .cons _ r => by rw [List.length_cons, List.length_cons, RpA.length r]
theorem RpA.get : ∀ {v : List V} {d : List D} {i : Nat} {x : V}, RpA K F v d → v[i]? = some x → ∃ y, d[i]? = some y ∧ Rp K F x y
  | _, _, _, _, .nil, h => by simp at h
  | _, _, 0, _, .cons h r, e => by simp at e; subst e; exact ⟨_, rfl, h⟩
  | _, _, i + 1, _, .cons h r, e => by simpa using RpA.get (i := i) r (by simpa using e)
theorem RpA.get' : ∀ {v : List V} {d : List D} {i : Nat} {y : D}, RpA K F v d → d[i]? = some y → ∃ x, v[i]? = some x ∧ Rp K F x y
  | _, _, _, _, .nil, h => by simp at h
  | _, _, 0, _, .cons h r, e => by simp at e; subst e; exact ⟨_, rfl, h⟩
  | _, _, i + 1, _, .cons h r, e => by simpa using RpA.get' (i := i) r (by simpa using e)
theorem RpA.append : ∀ {v v' : List V} {d d' : List D}, RpA K F v d → RpA K F v' d' → RpA K F (v ++ v') (d ++ d')
  | _, _, _, _, .nil, s => s
  | _, _, _, _, .cons h r, s => .cons h (RpA.append r s)
theorem RpA.take : ∀ {v : List V} {d : List D} (n : Nat), RpA K F v d → RpA K F (v.take n) (d.take n)
  | _, _, 0, _ => .nil
  | _, _, _ + 1, .nil => .nil
  | _, _, n + 1, .cons h r => .cons h (RpA.take n r)
theorem RpA.drop : ∀ {v : List V} {d : List D} (n : Nat), RpA K F v d → RpA K F (v.drop n) (d.drop n)
  | _, _, 0, r => r
  | _, _, _ + 1, .nil => .nil
  | _, _, n + 1, .cons h r => RpA.drop n r
theorem RpA.set : ∀ {v : List V} {d : List D} {x : V} {y : D} (n : Nat), RpA K F v d → Rp K F x y → RpA K F (v.set n x) (d.set n y)
  | _, _, _, _, _, .nil, _ => .nil
  | _, _, _, _, 0, .cons h r, q => .cons q r
  | _, _, _, _, n + 1, .cons h r, q => .cons h (RpA.set n r q)
theorem RpA.ints : ∀ {v : List V} {d : List D} {ns : List Int}, RpA K F v d → d = ns.map PyData.int → v = ns.map V.int
  | _, _, [], .nil, _ => rfl
  | _, _, [], .cons _ _, e => by cases e
  | _, _, _ :: _, .nil, e => by cases e
  | _, _, n :: ns, .cons h r, e => by
    cases e
    cases h
    rw [RpA.ints r rfl]
    rfl
theorem RpA.ofInts : ∀ ns : List Int, RpA K F (ns.map V.int) (ns.map PyData.int)
  | [] => .nil
  | n :: ns => .cons (.int n) (RpA.ofInts ns)
theorem RpA.bools : ∀ {v : List V} {d : List D} {ns : List Bool}, RpA K F v d → d = ns.map PyData.bool → v = ns.map V.bl
  | _, _, [], .nil, _ => rfl
  | _, _, [], .cons _ _, e => by cases e
  | _, _, _ :: _, .nil, e => by cases e
  | _, _, n :: ns, .cons h r, e => by
    cases e
    cases h
    rw [RpA.bools r rfl]
    rfl
/-! data without dicts: what == reads -/
mutual
def nodic : D → Bool
  | .list xs => nodicA xs
  | .tuple xs => nodicA xs
  | .dict _ => false
  | _ => true
def nodicA : List D → Bool
  | [] => true
  | x :: xs => nodic x && nodicA xs
end
mutual
theorem Rp.dp : ∀ {v : V} {d : D}, Rp K F v d → nodic d = true → Dp K F v d
  | _, _, .non, _ => .non
  | _, _, .bl b, _ => .bl b
  | _, _, .int i, _ => .int i
  | _, _, .str x, _ => .str x
  | _, _, .lst h r, e => .lst (SqL.of h) (RpA.dp r (by simpa [nodic] using e))
  | _, _, .scr h r, e => by simp [nodic] at e
  | _, _, .tup h r, e => .tup h (RpA.dp r (by simpa [nodic] using e))
  | _, _, .dic h r, e => by simp [nodic] at e
theorem RpA.dp : ∀ {v : List V} {d : List D}, RpA K F v d → nodicA d = true → DpAll K F v d
  | _, _, .nil, _ => .nil
  | _, _, .cons h r, e => by
    simp only [nodicA, Bool.and_eq_true] at e
    exact .cons (Rp.dp h e.1) (RpA.dp r e.2)
end
end
/-! ### the slots -/
inductive Sl where
  | no
  | val (d : D)
  | own (d : D)
  | io (d : D)
abbrev Env := List Sl
def OwnR (K : PySem.W.Frag) (F H : Hp) (a : Addr) : D → Prop
  | .list ds => ∃ vs, H a = some (.lst vs) ∧ RpA K F vs ds
  | .dict ds => ∃ kvs, H a = some (.dK kvs) ∧ RpK K F kvs ds
  | _ => False
def SlR (K : PySem.W.Frag) (F H0 H : Hp) (s : Option (Option V)) : Sl → Prop
  | .no => True
  | .val d => ∃ v, s = some (some v) ∧ Rp K F v d
  | .own d => ∃ a, s = some (some (.ref a)) ∧ F a = none ∧ H0 a = none ∧ OwnR K F H a d
  | .io _ => True
/-- where a body stands: the heap at its entry, its io object, what was fixed at its entry -/
structure Fm where
  H0 : Hp
  io : Option Addr
  F0 : Hp
structure R (K : PySem.W.Frag) (Φ : Fm) (F : Hp) (σ : L2.St) (H : Hp) (ρ : Env) : Prop where
  len : σ.length = ρ.length
  sub : Same F H
  sub0 : Same Φ.F0 F
  new : ∀ b, Φ.F0 b = none → Φ.H0 b ≠ none → F b = none
  kept : ∀ b o, Φ.H0 b = some o → Φ.io ≠ some b → H b = some o
  dom : ∀ b, H b = none → Φ.H0 b = none
  sl : ∀ (i : Nat) (s : Sl), ρ[i]? = some s → SlR K F Φ.H0 H σ[i]? s
  dis : ∀ (i j : Nat) (a : Addr) (d e : D), ρ[i]? = some (.own d) → ρ[j]? = some (.own e) → σ[i]? = some (some (.ref a)) → σ[j]? = some (some (.ref a)) → i = j
  io1 : ∀ a, Φ.io = some a → Φ.H0 a ≠ none ∧ F a = none ∧ ∃ d, ρ[0]? = some (.io d) ∧ σ[0]? = some (some (.ref a)) ∧ OwnR K F H a d
  io2 : ∀ (i : Nat) (d : D), ρ[i]? = some (.io d) → i = 0 ∧ ∃ a, Φ.io = some a
theorem OwnR.mono {K : PySem.W.Frag} {F F' H H' : Hp} {a : Addr} {d : D} (s : Same F F') (e : ∀ o, H a = some o → H' a = some o) (h : OwnR K F H a d) : OwnR K F' H' a d := by
  cases d with
  | list ds => obtain ⟨vs, h1, h2⟩ := h; exact ⟨vs, e _ h1, h2.mono s⟩
  | dict ds => obtain ⟨vs, h1, h2⟩ := h; exact ⟨vs, e _ h1, h2.mono s⟩
  | _ => exact h.elim
theorem OwnR.ex {K : PySem.W.Frag} {F H : Hp} {a : Addr} {d : D} (h : OwnR K F H a d) : ∃ o, H a = some o := by
  cases d with
  | list ds => obtain ⟨vs, h1, h2⟩ := h; exact ⟨_, h1⟩
  | dict ds => obtain ⟨vs, h1, h2⟩ := h; exact ⟨_, h1⟩
  | _ => exact h.elim
theorem sub_upd {F : Hp} {p : Addr} {o : HO} (n : F p = none) : Same F (upd F p o) := Rd.Same.put n
section
variable {K : PySem.W.Frag} {Φ : Fm} {F H : Hp} {σ : L2.St} {ρ : Env}
/-- the heap and the fixed part grow -/
theorem R.grow (h : R K Φ F σ H ρ) {F' H' : Hp} (sF : Same F F') (sub : Same F' H') (new : ∀ b, F b = none → H b ≠ none → F' b = none) (kept : ∀ b o, H b = some o → H' b = some o) : R K Φ F' σ H' ρ := by
  have dm : ∀ b, Φ.H0 b ≠ none → H b ≠ none := fun b z e => z (h.dom b e)
  have fr : ∀ a, F a = none → Φ.H0 a = none → ∀ d, OwnR K F H a d → F' a = none ∧ OwnR K F' H' a d := fun a n _ d o => by
    obtain ⟨u, eu⟩ := o.ex
    exact ⟨new a n (by rw [eu]; exact fun z => by cases z), o.mono sF (kept a)⟩
  refine ⟨h.len, sub, h.sub0.trans sF, fun b n z => new b (h.new b n z) (dm b z), fun b o e z => kept b o (h.kept b o e z), fun b e => ?_, fun i s e => ?_, h.dis, fun a e => ?_, h.io2⟩
  · cases z : H b with
    | none => exact h.dom b z
    | some o => rw [kept b o z] at e; cases e
  · have q := h.sl i s e
    cases s with
    | no => trivial
    | val d => obtain ⟨v, e1, e2⟩ := q; exact ⟨v, e1, e2.mono sF⟩
    | own d => obtain ⟨a, e1, e2, e3, e4⟩ := q; exact ⟨a, e1, (fr a e2 e3 d e4).1, e3, (fr a e2 e3 d e4).2⟩
    | io d => trivial
  · obtain ⟨q1, q2, d, q3, q4, q5⟩ := h.io1 a e
    obtain ⟨u, eu⟩ := q5.ex
    exact ⟨q1, new a q2 (by rw [eu]; exact fun z => by cases z), d, q3, q4, q5.mono sF (kept a)⟩
/-- a new object, fixed at once -/
theorem R.alloc (h : R K Φ F σ H ρ) {p : Addr} {o : HO} (np : H p = none) : R K Φ (upd F p o) σ (upd H p o) ρ ∧ Same F (upd F p o) := by
  have nF : F p = none := h.sub.free np
  refine ⟨h.grow (sub_upd nF) (fun b u e => ?_) (fun b n z => ?_) (fun b u e => ?_), sub_upd nF⟩
  · by_cases z : b = p
    · subst z; rw [upd_same] at e ⊢; exact e
    · rw [upd_ne z] at e ⊢; exact h.sub _ _ e
  · by_cases y : b = p
    · subst y; exact absurd np z
    · rw [upd_ne y]; exact n
  · rw [upd_ne (ne_of_none e np)]; exact e
/-- a new object, not fixed -/
theorem R.allocO (h : R K Φ F σ H ρ) {p : Addr} {o : HO} (np : H p = none) : R K Φ F σ (upd H p o) ρ ∧ F p = none ∧ Φ.H0 p = none ∧ ∀ (j : Nat) d, ρ[j]? = some (.own d) → σ[j]? ≠ some (some (.ref p)) := by
  have nF : F p = none := h.sub.free np
  refine ⟨h.grow (Same.refl _) (fun b u e => ?_) (fun b n z => n) (fun b u e => ?_), nF, h.dom p np, fun j d e z => ?_⟩
  · rw [upd_ne (ne_of_none e nF)]; exact h.sub _ _ e
  · rw [upd_ne (ne_of_none e np)]; exact e
  · obtain ⟨a, e1, _, _, o⟩ := h.sl j _ e
    rw [z] at e1
    cases e1
    obtain ⟨u, eu⟩ := o.ex
    rw [np] at eu
    cases eu
theorem getset {α : Type} {xs : List α} {i j : Nat} {x y : α} (h : (xs.set i x)[j]? = some y) : (i = j ∧ y = x ∧ i < xs.length) ∨ (i ≠ j ∧ xs[j]? = some y) := by
  by_cases e : i = j
  · subst e
    by_cases l : i < xs.length
    · rw [List.getElem?_set_self l] at h
      exact .inl ⟨rfl, (Option.some.inj h).symm, l⟩
    · rw [List.getElem?_eq_none (by rw [List.length_set]; omega)] at h
      cases h
  · rw [List.getElem?_set_ne e] at h
    exact .inr ⟨e, h⟩
def notIo (ρ : Env) (i : Nat) : Bool := match ρ[i]? with
  | some (.io _) => false
  | _ => true
/-- a slot is set -/
theorem R.set (h : R K Φ F σ H ρ) {i : Nat} {v : V} {d : D} (n : notIo ρ i = true) (r : Rp K F v d) : R K Φ F (σ.set i (some v)) H (ρ.set i (.val d)) := by
  refine ⟨by rw [List.length_set, List.length_set, h.len], h.sub, h.sub0, h.new, h.kept, h.dom, fun j s e => ?_, fun j k a d1 d2 e1 e2 f1 f2 => ?_, fun a e => ?_, fun j d' e => ?_⟩
  · rcases getset e with ⟨rfl, rfl, l⟩ | ⟨z, e'⟩
    · exact ⟨v, by rw [List.getElem?_set_self (by rw [h.len]; exact l)], r⟩
    · rw [List.getElem?_set_ne z]; exact h.sl j s e'
  · rcases getset e1 with ⟨_, z, _⟩ | ⟨z1, e1'⟩
    · cases z
    rcases getset e2 with ⟨_, z, _⟩ | ⟨z2, e2'⟩
    · cases z
    rw [List.getElem?_set_ne z1] at f1
    rw [List.getElem?_set_ne z2] at f2
    exact h.dis j k a d1 d2 e1' e2' f1 f2
  · obtain ⟨q1, q2, d', q3, q4, q5⟩ := h.io1 a e
    have z : i ≠ 0 := by
      rintro rfl
      unfold notIo at n
      rw [q3] at n
      cases n
    exact ⟨q1, q2, d', by rw [List.getElem?_set_ne z]; exact q3, by rw [List.getElem?_set_ne z]; exact q4, q5⟩
  · rcases getset e with ⟨_, z, _⟩ | ⟨z, e'⟩
    · cases z
    · exact h.io2 j d' e'
/-- a slot takes a new object of its own -/
theorem R.setO (h : R K Φ F σ H ρ) {i : Nat} {p : Addr} {d : D} (n : notIo ρ i = true) (nF : F p = none) (n0 : Φ.H0 p = none) (ap : ∀ (j : Nat) d, ρ[j]? = some (.own d) → σ[j]? ≠ some (some (.ref p))) (r : OwnR K F H p d) :
    R K Φ F (σ.set i (some (.ref p))) H (ρ.set i (.own d)) := by
  refine ⟨by rw [List.length_set, List.length_set, h.len], h.sub, h.sub0, h.new, h.kept, h.dom, fun j s e => ?_, fun j k a d1 d2 e1 e2 f1 f2 => ?_, fun a e => ?_, fun j d' e => ?_⟩
  · rcases getset e with ⟨rfl, rfl, l⟩ | ⟨z, e'⟩
    · exact ⟨p, by rw [List.getElem?_set_self (by rw [h.len]; exact l)], nF, n0, r⟩
    · rw [List.getElem?_set_ne z]; exact h.sl j s e'
  · rcases getset e1 with ⟨rfl, _, l1⟩ | ⟨z1, e1'⟩
    · rcases getset e2 with ⟨rfl, _, _⟩ | ⟨z2, e2'⟩
      · rfl
      · rw [List.getElem?_set_self (by rw [h.len]; exact l1)] at f1
        rw [List.getElem?_set_ne z2] at f2
        cases f1
        exact absurd f2 (ap k _ e2')
    · rcases getset e2 with ⟨rfl, _, l2⟩ | ⟨z2, e2'⟩
      · rw [List.getElem?_set_self (by rw [h.len]; exact l2)] at f2
        rw [List.getElem?_set_ne z1] at f1
        cases f2
        exact absurd f1 (ap j _ e1')
      · rw [List.getElem?_set_ne z1] at f1
        rw [List.getElem?_set_ne z2] at f2
        exact h.dis j k a d1 d2 e1' e2' f1 f2
  · obtain ⟨q1, q2, d', q3, q4, q5⟩ := h.io1 a e
    have z : i ≠ 0 := by
      rintro rfl
      unfold notIo at n
      rw [q3] at n
      cases n
    exact ⟨q1, q2, d', by rw [List.getElem?_set_ne z]; exact q3, by rw [List.getElem?_set_ne z]; exact q4, q5⟩
  · rcases getset e with ⟨_, z, _⟩ | ⟨z, e'⟩
    · cases z
    · exact h.io2 j d' e'
/-- an own object is fixed -/
theorem R.freeze (h : R K Φ F σ H ρ) {i : Nat} {d : D} (e : ρ[i]? = some (.own d)) : ∃ v F', σ[i]? = some (some v) ∧ R K Φ F' σ H (ρ.set i (.val d)) ∧ Same F F' ∧ Rp K F' v d := by
  obtain ⟨a, e1, nF, n0, o⟩ := h.sl i _ e
  obtain ⟨u, eu⟩ := o.ex
  have sF : Same F (upd F a u) := sub_upd nF
  have r : Rp K (upd F a u) (.ref a) d := by
    cases d with
    | list ds => obtain ⟨vs, h1, h2⟩ := o; rw [h1] at eu; cases eu; exact .lst upd_same (h2.mono sF)
    | dict ds => obtain ⟨vs, h1, h2⟩ := o; rw [h1] at eu; cases eu; exact .dic upd_same (h2.mono sF)
    | _ => exact o.elim
  have hi : i < ρ.length := (List.getElem?_eq_some_iff.mp e).1
  have ot : ∀ j a' d', i ≠ j → ρ[j]? = some (.own d') → σ[j]? = some (some (.ref a')) → a' ≠ a := fun j a' d' z q1 q2 => by
    rintro rfl
    exact z (h.dis i j _ _ _ e q1 e1 q2)
  refine ⟨_, _, e1, ⟨by rw [List.length_set, h.len], fun b w q => ?_, h.sub0.trans sF, fun b n z => ?_, h.kept, h.dom, fun j s q => ?_, fun j k b d1 d2 q1 q2 f1 f2 => ?_, fun b q => ?_, fun j d' q => ?_⟩, sF, r⟩
  · by_cases z : b = a
    · subst z; rw [upd_same] at q; cases q; exact eu
    · rw [upd_ne z] at q; exact h.sub _ _ q
  · by_cases y : b = a
    · subst y; exact absurd n0 z
    · rw [upd_ne y]; exact h.new b n z
  · rcases getset q with ⟨rfl, rfl, l⟩ | ⟨z, q'⟩
    · exact ⟨_, e1, r⟩
    · have w := h.sl j s q'
      cases s with
      | no => trivial
      | val d' => obtain ⟨v, w1, w2⟩ := w; exact ⟨v, w1, w2.mono sF⟩
      | own d' =>
        obtain ⟨a', w1, w2, w3, w4⟩ := w
        exact ⟨a', w1, by rw [upd_ne (ot j a' d' z q' w1)]; exact w2, w3, w4.mono sF fun _ y => y⟩
      | io d' => trivial
  · rcases getset q1 with ⟨_, z, _⟩ | ⟨z1, q1'⟩
    · cases z
    rcases getset q2 with ⟨_, z, _⟩ | ⟨z2, q2'⟩
    · cases z
    exact h.dis j k b d1 d2 q1' q2' f1 f2
  · obtain ⟨w1, w2, d', w3, w4, w5⟩ := h.io1 b q
    have z : i ≠ 0 := by
      rintro rfl
      rw [w3] at e
      cases e
    have zb : b ≠ a := by
      rintro rfl
      exact w1 n0
    exact ⟨w1, by rw [upd_ne zb]; exact w2, d', by rw [List.getElem?_set_ne z]; exact w3, w4, w5.mono sF fun _ y => y⟩
  · rcases getset q with ⟨_, z, _⟩ | ⟨z, q'⟩
    · cases z
    · exact h.io2 j d' q'
/-- an object of a slot's own, or the io object -/
def mu (ρ : Env) (i : Nat) : Option D := match ρ[i]? with
  | some (.own d) => some d
  | some (.io d) => some d
  | _ => none
def putMu (ρ : Env) (i : Nat) (d : D) : Env := match ρ[i]? with
  | some (.own _) => ρ.set i (.own d)
  | some (.io _) => ρ.set i (.io d)
  | _ => ρ
theorem R.mu (h : R K Φ F σ H ρ) {i : Nat} {d : D} (e : mu ρ i = some d) : ∃ a, σ[i]? = some (some (.ref a)) ∧ F a = none ∧ OwnR K F H a d := by
  unfold Mi.mu at e
  split at e
  · rename_i d' q
    cases e
    obtain ⟨a, e1, nF, n0, o⟩ := h.sl i _ q
    exact ⟨a, e1, nF, o⟩
  · rename_i d' q
    cases e
    obtain ⟨rfl, a, z⟩ := h.io2 i d q
    obtain ⟨w1, w2, d', w3, w4, w5⟩ := h.io1 a z
    rw [w3] at q
    cases q
    exact ⟨a, w4, w2, w5⟩
  · cases e
/-- it changes -/
theorem R.putMu (h : R K Φ F σ H ρ) {i : Nat} {a : Addr} {d d' : D} {o : HO} (e : Mi.mu ρ i = some d) (ea : σ[i]? = some (some (.ref a))) (r : OwnR K F (upd H a o) a d') : R K Φ F σ (upd H a o) (putMu ρ i d') := by
  obtain ⟨a1, ea1, nF, ow⟩ := h.mu e
  rw [ea] at ea1
  cases ea1
  obtain ⟨u, eu⟩ := ow.ex
  have hi : i < ρ.length := by
    unfold Mi.mu at e
    split at e
    · rename_i q; exact (List.getElem?_eq_some_iff.mp q).1
    · rename_i q; exact (List.getElem?_eq_some_iff.mp q).1
    · cases e
  have sub : Same F (upd H a o) := fun b w q => by rw [upd_ne (ne_of_none q nF)]; exact h.sub _ _ q
  have dom : ∀ b, (upd H a o) b = none → Φ.H0 b = none := fun b q => by
    by_cases z : b = a
    · subst z; rw [upd_same] at q; cases q
    · rw [upd_ne z] at q; exact h.dom b q
  cases q : ρ[i]? with
  | none => unfold Mi.mu at e; rw [q] at e; cases e
  | some s =>
    cases s with
    | no => unfold Mi.mu at e; rw [q] at e; cases e
    | val _ => unfold Mi.mu at e; rw [q] at e; cases e
    | own d0 =>
      unfold Mi.putMu
      rw [q]
      obtain ⟨a0, e0, nF0, n0, ow0⟩ := h.sl i _ q
      rw [ea] at e0
      cases e0
      have ot : ∀ j a' d', i ≠ j → ρ[j]? = some (.own d') → σ[j]? = some (some (.ref a')) → a' ≠ a := fun j a' d' z q1 q2 => by
        rintro rfl
        exact z (h.dis i j _ _ _ q q1 ea q2)
      refine ⟨by rw [List.length_set, h.len], sub, h.sub0, h.new, fun b w q1 z => ?_, dom, fun j s q1 => ?_, fun j k b d1 d2 q1 q2 f1 f2 => ?_, fun b q1 => ?_, fun j d' q1 => ?_⟩
      · rw [upd_ne (ne_of_none q1 n0)]; exact h.kept _ _ q1 z
      · rcases getset q1 with ⟨rfl, rfl, l⟩ | ⟨z, q'⟩
        · exact ⟨a, ea, nF, n0, r⟩
        · have w := h.sl j s q'
          cases s with
          | no => trivial
          | val d' => exact w
          | own d' =>
            obtain ⟨a', w1, w2, w3, w4⟩ := w
            exact ⟨a', w1, w2, w3, w4.mono (Same.refl _) fun u y => by rw [upd_ne (ot j a' d' z q' w1)]; exact y⟩
          | io d' => trivial
      · rcases getset q1 with ⟨rfl, _, _⟩ | ⟨z1, q1'⟩
        · rcases getset q2 with ⟨rfl, _, _⟩ | ⟨z2, q2'⟩
          · rfl
          · exact h.dis _ k b _ d2 q q2' f1 f2
        · rcases getset q2 with ⟨rfl, _, _⟩ | ⟨z2, q2'⟩
          · exact h.dis j _ b d1 _ q1' q f1 f2
          · exact h.dis j k b d1 d2 q1' q2' f1 f2
      · obtain ⟨w1, w2, d', w3, w4, w5⟩ := h.io1 b q1
        have z : i ≠ 0 := by rintro rfl; rw [w3] at q; cases q
        have zb : b ≠ a := by rintro rfl; exact w1 n0
        exact ⟨w1, w2, d', by rw [List.getElem?_set_ne z]; exact w3, w4, w5.mono (Same.refl _) fun u y => by rw [upd_ne zb]; exact y⟩
      · rcases getset q1 with ⟨_, z, _⟩ | ⟨z, q'⟩
        · cases z
        · exact h.io2 j d' q'
    | io d0 =>
      unfold Mi.putMu
      rw [q]
      obtain ⟨rfl, a0, z0⟩ := h.io2 i d0 q
      obtain ⟨w1, w2, d1, w3, w4, w5⟩ := h.io1 a0 z0
      rw [ea] at w4
      cases w4
      refine ⟨by rw [List.length_set, h.len], sub, h.sub0, h.new, fun b w q1 z => ?_, dom, fun j s q1 => ?_, fun j k b d1 d2 q1 q2 f1 f2 => ?_, fun b q1 => ?_, fun j d' q1 => ?_⟩
      · rw [upd_ne (fun y => z (by rw [z0, y]))]; exact h.kept _ _ q1 z
      · rcases getset q1 with ⟨rfl, rfl, l⟩ | ⟨z, q'⟩
        · trivial
        · have w := h.sl j s q'
          cases s with
          | no => trivial
          | val d' => exact w
          | own d' =>
            obtain ⟨a', u1, u2, u3, u4⟩ := w
            have zb : a' ≠ a := by rintro rfl; exact w1 u3
            exact ⟨a', u1, u2, u3, u4.mono (Same.refl _) fun u y => by rw [upd_ne zb]; exact y⟩
          | io d' => trivial
      · rcases getset q1 with ⟨_, z, _⟩ | ⟨z1, q1'⟩
        · cases z
        rcases getset q2 with ⟨_, z, _⟩ | ⟨z2, q2'⟩
        · cases z
        exact h.dis j k b d1 d2 q1' q2' f1 f2
      · rw [z0] at q1
        cases q1
        exact ⟨w1, w2, d', by rw [List.getElem?_set_self hi], ea, r⟩
      · rcases getset q1 with ⟨rfl, _, _⟩ | ⟨z, q'⟩
        · exact ⟨rfl, _, z0⟩
        · exact h.io2 j d' q'
end
end Mi

set_option Elab.async false
set_option linter.all false
set_option maxRecDepth 100000
namespace Mi
open PySem PySem.Spec PyProof.Rows L2
/-! ### readings and what they are worth -/
inductive Res (α : Type) where
  | ok (a : α)
  | exc (c : Str) (d : D) (ρ : Env)
  | stuck
def Res.bind {α β : Type} : Res α → (α → Res β) → Res β
  | .ok a, f => f a
  | .exc c d ρ, _ => .exc c d ρ
  | .stuck, _ => .stuck
def Good {α : Type} (r : Res α) (P : α → Prop) (W : Str → D → Env → Prop) : Prop := match r with
  | .ok a => P a
  | .exc c d ρ => W c d ρ
  | .stuck => False
theorem Good.bind {α β : Type} {r : Res α} {f : α → Res β} {P : β → Prop} {W : Str → D → Env → Prop} (h : Good (r.bind f) P W) : Good r (fun a => Good (f a) P W) W := by
  cases r <;> exact h
theorem Good.mono {α : Type} {r : Res α} {P P' : α → Prop} {W W' : Str → D → Env → Prop} (h : Good r P W) (hp : ∀ a, P a → P' a) (hw : ∀ c d ρ, W c d ρ → W' c d ρ) : Good r P' W' := by
  cases r with
  | ok a => exact hp a h
  | exc c d ρ => exact hw c d ρ h
  | stuck => exact h
abbrev ME := Env → Res (D × Env)
abbrev MT := Env → Res (Bool × Env)
abbrev MA := Env → Res (List D × Env)
abbrev WXm := Str → D → Hp → Env → Prop
def up (F : Hp) (W : WXm) : Str → D → Env → Prop := fun c d ρ => ∀ F', Same F F' → W c d F' ρ
theorem up.weak {F F' : Hp} {W : WXm} (s : Same F F') {c : Str} {d : D} {ρ : Env} (h : up F W c d ρ) : up F' W c d ρ := fun F2 s2 => h F2 (s.trans s2)
def RpX (K : PySem.W.Frag) (F : Hp) (fs : List (Str × V)) (d : D) : Prop := ∃ kds, d = .dict kds ∧ RpK K F (fs.map fun p => ((.inr p.1 : Key), p.2)) kds
/-- what is wanted of an exception, by E, follows from W -/
def XW (K : PySem.W.Frag) (mg : Str → Option Value) (Φ : Fm) (E : L2.St → XK) (W : WXm) : Prop :=
  ∀ (c : Str) (d : D) (ρ : Env) (F : Hp) (σ : L2.St) (H : Hp) (C dx : Addr) (fs : List (Str × V)), R K Φ F σ H ρ → mg c = some (.ref C) → H dx = some (.xd fs) → F dx = none → Φ.H0 dx = none → RpX K F fs d → W c d F ρ → E σ (.ref C) (some dx) H
section
variable (K : PySem.W.Frag) (mg : Str → Option Value) (E : L2.St → XK)
def ShE (t : TE) (m : ME) : Prop := ∀ (Φ : Fm) (F : Hp) (σ : L2.St) (H : Hp) (ρ : Env) (Q : VK) (W : WXm), R K Φ F σ H ρ → XW K mg Φ E W →
  Good (m ρ) (fun p => ∀ v F' H', R K Φ F' σ H' p.2 → Same F F' → Rp K F' v p.1 → Q v H') (up F W) → t σ H Q
def ShT (t : TT) (m : MT) : Prop := ∀ (Φ : Fm) (F : Hp) (σ : L2.St) (H : Hp) (ρ : Env) (Q : Bool → Hp → Prop) (W : WXm), R K Φ F σ H ρ → XW K mg Φ E W →
  Good (m ρ) (fun p => ∀ F' H', R K Φ F' σ H' p.2 → Same F F' → Q p.1 H') (up F W) → t σ H Q
/-- an expression that makes a new object -/
def ShF (t : TE) (m : ME) : Prop := ∀ (Φ : Fm) (F : Hp) (σ : L2.St) (H : Hp) (ρ : Env) (Q : VK) (W : WXm), R K Φ F σ H ρ → XW K mg Φ E W →
  Good (m ρ) (fun p => ∀ a F' H', R K Φ F' σ H' p.2 → Same F F' → F' a = none → Φ.H0 a = none → (∀ (j : Nat) d, p.2[j]? = some (.own d) → σ[j]? ≠ some (some (.ref a))) → OwnR K F' H' a p.1 → Q (.ref a) H') (up F W) → t σ H Q
def mA : List ME → MA
  | [] => fun ρ => .ok ([], ρ)
  | m :: ms => fun ρ => (m ρ).bind fun p => (mA ms p.2).bind fun q => .ok (p.1 :: q.1, q.2)
def ShA (t : TA) (ms : List ME) : Prop := ∀ (Φ : Fm) (F : Hp) (σ : L2.St) (H : Hp) (ρ : Env) (Q : List V → Hp → Prop) (W : WXm), R K Φ F σ H ρ → XW K mg Φ E W →
  Good (mA ms ρ) (fun p => ∀ vs F' H', R K Φ F' σ H' p.2 → Same F F' → RpA K F' vs p.1 → vs.length = ms.length → Q vs H') (up F W) → t σ H Q
end
section
variable {K : PySem.W.Frag} {mg : Str → Option Value} {E : L2.St → XK} {ta tb tc te : TE} {t u : TT} {tr : TA} {ma mb mc m : ME} {mt mu' : MT} {ms : List ME}
/-! names, constants -/
def mVar (i : Nat) : ME := fun ρ => match ρ[i]? with
  | some (.val d) => .ok (d, ρ)
  | some (.own d) => .ok (d, ρ.set i (.val d))
  | _ => .stuck
theorem sh_var (i : Nat) : ShE K mg E (tVar i) (mVar i) := by
  intro Φ F σ H ρ Q W r _ g
  unfold mVar at g
  cases e : ρ[i]? with
  | none => rw [e] at g; exact g.elim
  | some s =>
    rw [e] at g
    cases s with
    | no => exact g.elim
    | io d => exact g.elim
    | val d =>
      obtain ⟨v, e1, e2⟩ := r.sl i _ e
      exact ⟨v, e1, g v F H r (Same.refl _) e2⟩
    | own d =>
      obtain ⟨v, F', e1, r', s', rp⟩ := r.freeze e
      exact ⟨v, e1, g v F' H r' s' rp⟩
def mC (d : D) : ME := fun ρ => .ok (d, ρ)
theorem sh_c {v : V} {d : D} (h : ∀ F, Rp K F v d) : ShE K mg E (tC v) (mC d) := fun Φ F σ H ρ Q W r _ g => g v F H r (Same.refl _) (h F)
theorem sh_int (i : Int) : ShE K mg E (tC (.int i)) (mC (.int i)) := sh_c fun _ => .int i
theorem sh_bl (i : Bool) : ShE K mg E (tC (.bl i)) (mC (.bool i)) := sh_c fun _ => .bl i
theorem sh_str (i : Str) : ShE K mg E (tC (.str i)) (mC (.str i)) := sh_c fun _ => .str i
theorem sh_non : ShE K mg E (tC .non) (mC .none) := sh_c fun _ => .non
/-! a new object, then fixed -/
theorem OwnR.fix {F H : Hp} {a : Addr} {d : D} (h : OwnR K F H a d) : ∃ o, H a = some o ∧ ∀ F', Same F F' → F' a = some o → Rp K F' (.ref a) d := by
  cases d with
  | list ds => obtain ⟨vs, h1, h2⟩ := h; exact ⟨_, h1, fun F' s e => .lst e (h2.mono s)⟩
  | dict ds => obtain ⟨vs, h1, h2⟩ := h; exact ⟨_, h1, fun F' s e => .dic e (h2.mono s)⟩
  | _ => exact h.elim
theorem R.fixNew {Φ : Fm} {F H : Hp} {σ : L2.St} {ρ : Env} (r : R K Φ F σ H ρ) {a : Addr} {o : HO} (nF : F a = none) (n0 : Φ.H0 a = none) (ap : ∀ (j : Nat) d, ρ[j]? = some (.own d) → σ[j]? ≠ some (some (.ref a))) (e : H a = some o) :
    R K Φ (upd F a o) σ H ρ ∧ Same F (upd F a o) := by
  have sF : Same F (upd F a o) := sub_upd nF
  refine ⟨⟨r.len, fun b w q => ?_, r.sub0.trans sF, fun b n z => ?_, r.kept, r.dom, fun j s q => ?_, r.dis, fun b q => ?_, r.io2⟩, sF⟩
  · by_cases z : b = a
    · subst z; rw [upd_same] at q; cases q; exact e
    · rw [upd_ne z] at q; exact r.sub _ _ q
  · by_cases y : b = a
    · subst y; exact absurd n0 z
    · rw [upd_ne y]; exact r.new b n z
  · have w := r.sl j s q
    cases s with
    | no => trivial
    | val d' => obtain ⟨v, w1, w2⟩ := w; exact ⟨v, w1, w2.mono sF⟩
    | own d' =>
      obtain ⟨a', w1, w2, w3, w4⟩ := w
      have z : a' ≠ a := by rintro rfl; exact ap j _ q w1
      exact ⟨a', w1, by rw [upd_ne z]; exact w2, w3, w4.mono sF fun _ y => y⟩
    | io d' => trivial
  · obtain ⟨w1, w2, d', w3, w4, w5⟩ := r.io1 b q
    have zb : b ≠ a := by rintro rfl; exact w1 n0
    exact ⟨w1, by rw [upd_ne zb]; exact w2, d', w3, w4, w5.mono sF fun _ y => y⟩
theorem ShF.e (h : ShF K mg E te m) : ShE K mg E te m := by
  intro Φ F σ H ρ Q W r x g
  refine h Φ F σ H ρ Q W r x (g.mono (fun p gp a F' H' r' s nF n0 ap o => ?_) fun _ _ _ w => w)
  obtain ⟨u, eu, fx⟩ := OwnR.fix o
  obtain ⟨r2, s2⟩ := r'.fixNew nF n0 ap eu
  exact gp _ _ _ r2 (s.trans s2) (fx _ s2 upd_same)
/-! arguments -/
theorem sha_nil : ShA K mg E tNil [] := fun Φ F σ H ρ Q W r x g => g [] F H r (Same.refl _) .nil rfl
theorem sha_cons (ha : ShE K mg E te m) (hr : ShA K mg E tr ms) : ShA K mg E (tCons te tr) (m :: ms) := by
  intro Φ F σ H ρ Q W r x g
  have g1 := Good.bind (r := m ρ) (f := fun p => (mA ms p.2).bind fun q => .ok (p.1 :: q.1, q.2)) g
  refine ha Φ F σ H ρ _ W r x (g1.mono (fun p gp v F1 H1 r1 s1 rv => ?_) fun _ _ _ w => w)
  have g2 := gp.bind
  refine hr Φ F1 σ H1 p.2 _ W r1 x (g2.mono (fun q gq vs F2 H2 r2 s2 rvs hl => ?_) fun _ _ _ w => up.weak s1 w)
  exact gq (v :: vs) F2 H2 r2 (s1.trans s2) (.cons (rv.mono s2) rvs) (by rw [List.length_cons, List.length_cons, hl])
/-! operators by values -/
def OpSh (K : PySem.W.Frag) (r : R2) (f : D → D → Option D) : Prop := ∀ (Φ : Fm) (F : Hp) (σ : L2.St) (H : Hp) (ρ : Env) (x y : V) (dx dy d : D) (Q : VK), R K Φ F σ H ρ → Rp K F x dx → Rp K F y dy → f dx dy = some d →
  (∀ v F' H', R K Φ F' σ H' ρ → Same F F' → Rp K F' v d → Q v H') → r x y H Q
def ret (o : Option D) (ρ : Env) : Res (D × Env) := match o with
  | some d => .ok (d, ρ)
  | none => .stuck
def mOp (f : D → D → Option D) (ma mb : ME) : ME := fun ρ => (ma ρ).bind fun p => (mb p.2).bind fun q => ret (f p.1 q.1) q.2
theorem sh_op {r : R2} {f : D → D → Option D} (ho : OpSh K r f) (ha : ShE K mg E ta ma) (hb : ShE K mg E tb mb) : ShE K mg E (tOp r ta tb) (mOp f ma mb) := by
  intro Φ F σ H ρ Q W rr x g
  have g1 := Good.bind (r := ma ρ) g
  refine ha Φ F σ H ρ _ W rr x (g1.mono (fun p gp v F1 H1 r1 s1 rv => ?_) fun _ _ _ w => w)
  have g2 := gp.bind
  refine hb Φ F1 σ H1 p.2 _ W r1 x (g2.mono (fun q gq v2 F2 H2 r2 s2 rv2 => ?_) fun _ _ _ w => up.weak s1 w)
  unfold ret at gq
  cases e : f p.1 q.1 with
  | none => rw [e] at gq; exact gq.elim
  | some d =>
    rw [e] at gq
    exact ho Φ F2 σ H2 q.2 v v2 _ _ d Q r2 (rv.mono s2) rv2 e fun v3 F3 H3 r3 s3 rv3 => gq v3 F3 H3 r3 ((s1.trans s2).trans s3) rv3
def UnSh (K : PySem.W.Frag) (r : V → Hp → VK → Prop) (f : D → Option D) : Prop := ∀ (F H : Hp) (x : V) (dx d : D) (Q : VK), Same F H → Rp K F x dx → f dx = some d → (∀ v, Rp K F v d → Q v H) → r x H Q
def mUn (f : D → Option D) (ma : ME) : ME := fun ρ => (ma ρ).bind fun p => ret (f p.1) p.2
theorem sh_un {r : V → Hp → VK → Prop} {f : D → Option D} (ho : UnSh K r f) (ha : ShE K mg E ta ma) : ShE K mg E (tUn r ta) (mUn f ma) := by
  intro Φ F σ H ρ Q W rr x g
  have g1 := Good.bind (r := ma ρ) g
  refine ha Φ F σ H ρ _ W rr x (g1.mono (fun p gp v F1 H1 r1 s1 rv => ?_) fun _ _ _ w => w)
  unfold ret at gp
  cases e : f p.1 with
  | none => rw [e] at gp; exact gp.elim
  | some d =>
    rw [e] at gp
    exact ho F1 H1 v _ d Q r1.sub rv e fun v3 rv3 => gp v3 F1 H1 r1 s1 rv3
/-- operators that make nothing new -/
def OpS (K : PySem.W.Frag) (r : R2) (f : D → D → Option D) : Prop := ∀ (F H : Hp) (x y : V) (dx dy d : D) (Q : VK), Same F H → Rp K F x dx → Rp K F y dy → f dx dy = some d → (∀ v, Rp K F v d → Q v H) → r x y H Q
theorem OpS.sh {r : R2} {f : D → D → Option D} (h : OpS K r f) : OpSh K r f := fun Φ F σ H ρ x y dx dy d Q rr rx ry e q => h F H x y dx dy d Q rr.sub rx ry e fun v rv => q v F H rr (Same.refl _) rv
/-! ints -/
def f2 (g : Int → Int → D) : D → D → Option D
  | .int i, .int j => some (g i j)
  | _, _ => none
def f2c (c : Int → Int → Bool) (g : Int → Int → D) : D → D → Option D
  | .int i, .int j => if c i j = true then some (g i j) else none
  | _, _ => none
theorem ops_int0 {g : Int → Int → V} {g' : Int → Int → D} (h : ∀ i j F, Rp K F (g i j) (g' i j)) : OpS K (rI0 g) (f2 g') := by
  intro F H x y dx dy d Q _ rx ry e q
  cases dx <;> try (cases e; done)
  cases dy <;> try (cases e; done)
  cases rx
  cases ry
  cases e
  exact ⟨_, _, rfl, rfl, q _ (h _ _ _)⟩
theorem ops_int {C : Int → Int → Prop} {c : Int → Int → Bool} {g : Int → Int → V} {g' : Int → Int → D} (hc : ∀ i j, c i j = true → C i j) (h : ∀ i j F, Rp K F (g i j) (g' i j)) : OpS K (rI C g) (f2c c g') := by
  intro F H x y dx dy d Q _ rx ry e q
  cases dx <;> try (cases e; done)
  cases dy <;> try (cases e; done)
  cases rx
  cases ry
  rename_i i j
  have e : (if c i j = true then some (g' i j) else none) = some d := e
  split at e
  · cases e
    exact ⟨_, _, rfl, rfl, hc _ _ (by assumption), q _ (h _ _ _)⟩
  · cases e
def fAdd := f2 fun i j => .int (i + j)
def fSub := f2 fun i j => .int (i - j)
def cMul (i j : Int) : Bool := (decide (-18446744073709551616 < i) && decide (i < 18446744073709551616)) || (decide (-18446744073709551616 < j) && decide (j < 18446744073709551616))
def fMul := f2c cMul fun i j => .int (i * j)
def fMulW := f2c (fun i j => decide (i.natAbs.log2 + j.natAbs.log2 < 1000000)) fun i j => .int (i * j)
def fDiv := f2c (fun _ j => decide (0 < j) && decide (j < 18446744073709551616)) fun i j => .int (i / j)
def fMod := f2c (fun _ j => decide (0 < j)) fun i j => .int (i % j)
def fPow := f2c (fun i j => decide (0 ≤ j) && decide (j ≤ 1000000) && decide (i.natAbs < 18446744073709551616)) fun i j => .int (i ^ j.toNat)
theorem s_add : OpSh K (rI0 fun i j => .int (i + j)) fAdd := (ops_int0 fun _ _ _ => .int _).sh
theorem s_sub : OpSh K (rI0 fun i j => .int (i - j)) fSub := (ops_int0 fun _ _ _ => .int _).sh
theorem s_mul : OpSh K (rI CMul fun i j => .int (i * j)) fMul := (ops_int (fun i j h => by
  unfold cMul at h
  unfold CMul
  simp only [Bool.or_eq_true, Bool.and_eq_true, decide_eq_true_eq] at h
  omega) fun _ _ _ => .int _).sh
theorem s_mulW : OpSh K (rI CMulW fun i j => .int (i * j)) fMulW := (ops_int (fun i j h => by show i.natAbs.log2 + j.natAbs.log2 < 1000000; exact of_decide_eq_true h) fun _ _ _ => .int _).sh
theorem s_fdivW : OpSh K (rI CDivW fun i j => .int (i / j)) fDiv := (ops_int (fun i j h => by
  simp only [Bool.and_eq_true, decide_eq_true_eq] at h
  exact Rd.cdiv h.1 h.2) fun _ _ _ => .int _).sh
theorem s_mod : OpSh K (rI (fun _ j => 0 < j) fun i j => .int (i % j)) fMod := (ops_int (fun i j h => of_decide_eq_true h) fun _ _ _ => .int _).sh
theorem s_pow : OpSh K (rI CPow fun i j => .int (i ^ j.toNat)) fPow := (ops_int (fun i j h => by
  simp only [Bool.and_eq_true, decide_eq_true_eq] at h
  exact ⟨h.1.1, h.1.2, by have := h.2; omega⟩) fun _ _ _ => .int _).sh
def fLt := f2 fun i j => .bool (decide (i < j))
def fLe := f2 fun i j => .bool (decide (i ≤ j))
def fGt := f2 fun i j => .bool (decide (j < i))
def fGe := f2 fun i j => .bool (decide (j ≤ i))
theorem s_lt : OpSh K (rI0 fun i j => .bl (decide (i < j))) fLt := (ops_int0 fun _ _ _ => .bl _).sh
theorem s_le : OpSh K (rI0 fun i j => .bl (decide (i ≤ j))) fLe := (ops_int0 fun _ _ _ => .bl _).sh
theorem s_gt : OpSh K (rI0 fun i j => .bl (decide (j < i))) fGt := (ops_int0 fun _ _ _ => .bl _).sh
theorem s_ge : OpSh K (rI0 fun i j => .bl (decide (j ≤ i))) fGe := (ops_int0 fun _ _ _ => .bl _).sh
def fNeg : D → Option D
  | .int i => some (.int (-i))
  | _ => none
theorem s_neg : UnSh K (rU fun i => .int (-i)) fNeg := by
  intro F H x dx d Q _ rx e q
  cases dx <;> try (cases e; done)
  cases rx
  cases e
  exact ⟨_, rfl, q _ (.int _)⟩
/-! scalars compared -/
def fEqS : D → D → Option Bool
  | .none, .none => some true
  | .none, .int _ => some false
  | .int _, .none => some false
  | .none, .bool _ => some false
  | .bool _, .none => some false
  | .none, .str _ => some false
  | .str _, .none => some false
  | .int i, .int j => some (decide (i = j))
  | .bool i, .bool j => some (decide (i = j))
  | .str i, .str j => some (decide (i = j))
  | .int _, .str _ => some false
  | .str _, .int _ => some false
  | .bool _, .str _ => some false
  | .str _, .bool _ => some false
  | _, _ => none
theorem fEqS_ok {F : Hp} {x y : V} {dx dy : D} {b : Bool} (rx : Rp K F x dx) (ry : Rp K F y dy) (e : fEqS dx dy = some b) : scal x y = true ∧ decide (x = y) = b := by
  cases dx <;> cases dy <;> (try (cases e; done)) <;> cases rx <;> cases ry <;> (try cases e) <;> refine ⟨rfl, ?_⟩ <;> first
    | rfl
    | (rw [decide_eq_decide]; constructor <;> (intro z; cases z; rfl))
def fEq (a b : D) : Option D := (fEqS a b).map .bool
def fNe (a b : D) : Option D := (fEqS a b).map fun c => .bool (!c)
theorem s_eq : OpSh K rEq fEq := OpS.sh fun F H x y dx dy d Q _ rx ry e q => by
  unfold fEq at e
  cases z : fEqS dx dy with
  | none => rw [z] at e; cases e
  | some b =>
    rw [z] at e
    cases e
    obtain ⟨h1, h2⟩ := fEqS_ok rx ry z
    exact ⟨h1, by rw [h2]; exact q _ (.bl _)⟩
theorem s_ne : OpSh K rNe fNe := OpS.sh fun F H x y dx dy d Q _ rx ry e q => by
  unfold fNe at e
  cases z : fEqS dx dy with
  | none => rw [z] at e; cases e
  | some b =>
    rw [z] at e
    cases e
    obtain ⟨h1, h2⟩ := fEqS_ok rx ry z
    exact ⟨h1, by rw [h2]; exact q _ (.bl _)⟩
def okD (d : D) : Bool := nodic d && SeqAt.shaped d
def fEqD (a b : D) : Option D := if okD a && okD b then some (.bool (PyData.eqv a b)) else none
def fNeD (a b : D) : Option D := if okD a && okD b then some (.bool (!PyData.eqv a b)) else none
theorem okD_ok {F H : Hp} {x : V} {d : D} (s : Same F H) (r : Rp K F x d) (h : okD d = true) : Dp K H x d ∧ SeqAt.shaped d = true := by
  unfold okD at h
  rw [Bool.and_eq_true] at h
  exact ⟨(r.mono s).dp h.1, h.2⟩
theorem s_eqD : OpSh K (rEqD K) fEqD := OpS.sh fun F H x y dx dy d Q s rx ry e q => by
  unfold fEqD at e
  split at e
  · rename_i h
    rw [Bool.and_eq_true] at h
    cases e
    obtain ⟨h1, h2⟩ := okD_ok s rx h.1
    obtain ⟨h3, h4⟩ := okD_ok s ry h.2
    exact ⟨_, _, h1, h3, h2, h4, q _ (.bl _)⟩
  · cases e
theorem s_neD : OpSh K (rNeD K) fNeD := OpS.sh fun F H x y dx dy d Q s rx ry e q => by
  unfold fNeD at e
  split at e
  · rename_i h
    rw [Bool.and_eq_true] at h
    cases e
    obtain ⟨h1, h2⟩ := okD_ok s rx h.1
    obtain ⟨h3, h4⟩ := okD_ok s ry h.2
    exact ⟨_, _, h1, h3, h2, h4, q _ (.bl _)⟩
  · cases e
def isNon : D → Bool
  | .none => true
  | _ => false
theorem isNon_ok {F : Hp} {x : V} {d : D} (r : Rp K F x d) : decide (x = .non) = isNon d := by
  cases r <;> first
    | rfl
    | (exact decide_eq_false (by intro z; cases z))
def fIsN : D → D → Option D
  | a, .none => some (.bool (isNon a))
  | _, _ => none
def fNotN : D → D → Option D
  | a, .none => some (.bool (!isNon a))
  | _, _ => none
theorem s_isN : OpSh K (fun x y H Q => y = .non ∧ Q (.bl (decide (x = .non))) H) fIsN := OpS.sh fun F H x y dx dy d Q s rx ry e q => by
  cases dy <;> first | (cases e; done) | skip
  cases ry
  cases e
  exact ⟨rfl, by rw [isNon_ok rx]; exact q _ (.bl _)⟩
theorem s_notN : OpSh K (fun x y H Q => y = .non ∧ Q (.bl (!decide (x = .non))) H) fNotN := OpS.sh fun F H x y dx dy d Q s rx ry e q => by
  cases dy <;> first | (cases e; done) | skip
  cases ry
  cases e
  exact ⟨rfl, by rw [isNon_ok rx]; exact q _ (.bl _)⟩
/-! in -/
def flatD : D → Bool
  | .none => true
  | .bool _ => true
  | .int _ => true
  | .str _ => true
  | _ => false
def eqF : D → D → Bool
  | .none, .none => true
  | .bool a, .bool b => a == b
  | .bool a, .int b => (if a then 1 else 0) == b
  | .int a, .bool b => a == (if b then 1 else 0)
  | .int a, .int b => a == b
  | .str a, .str b => a == b
  | _, _ => false
theorem flat_ok {F : Hp} {x : V} {d : D} (r : Rp K F x d) (h : flatD d = true) : flatV x = true := by
  cases r <;> first | rfl | cases h
theorem eqF_ok {F : Hp} {x y : V} {d e : D} (r : Rp K F x d) (r' : Rp K F y e) (h : flatD d = true) (h' : flatD e = true) : eqV x y = eqF d e := by
  cases r <;> first | (cases h; done) | (cases r' <;> first | rfl | cases h')
def itemsD : D → Option (List D)
  | .list xs => some xs
  | .tuple xs => some xs
  | _ => none
def inF (x : D) (xs : List D) : Bool := xs.any fun y => eqF y x
theorem inF_ok {F : Hp} {x : V} {d : D} (r : Rp K F x d) (h : flatD d = true) : ∀ {xs : List V} {ds : List D}, RpA K F xs ds → ds.all flatD = true → xs.all flatV = true ∧ inV x xs = inF d ds
  | _, _, .nil, _ => ⟨rfl, rfl⟩
  | _, _, .cons q qs, hh => by
    rw [List.all_cons, Bool.and_eq_true] at hh
    obtain ⟨i1, i2⟩ := inF_ok r h qs hh.2
    refine ⟨by rw [List.all_cons, flat_ok q hh.1, i1]; rfl, ?_⟩
    unfold inV inF at i2 ⊢
    rw [List.any_cons, List.any_cons, i2, eqF_ok q r hh.1 h]
def fIn (neg : Bool) (a b : D) : Option D := match itemsD b with
  | some ds => if flatD a && ds.all flatD then some (.bool (if neg then !inF a ds else inF a ds)) else none
  | none => none
theorem s_in (neg : Bool) : OpSh K (rIn K neg) (fIn neg) := OpS.sh fun F H x y dx dy d Q s rx ry e q => by
  unfold fIn at e
  cases z : itemsD dy with
  | none => rw [z] at e; cases e
  | some ds =>
    rw [z] at e
    have e : (if (flatD dx && ds.all flatD) = true then some (PyData.bool (if neg then !inF dx ds else inF dx ds)) else none) = some d := e
    split at e
    · rename_i h
      rw [Bool.and_eq_true] at h
      cases e
      cases dy <;> first | (cases z; done) | skip
      · cases z
        cases ry with
        | lst h1 h2 =>
          obtain ⟨i1, i2⟩ := inF_ok rx h.1 h2 h.2
          exact ⟨_, _, rfl, .inl (SqL.of (s _ _ h1)), flat_ok rx h.1, i1, by rw [i2]; exact q _ (.bl _)⟩
      · cases z
        cases ry with
        | tup h1 h2 =>
          obtain ⟨i1, i2⟩ := inF_ok rx h.1 h2 h.2
          exact ⟨_, _, rfl, .inr (s.seqT h1), flat_ok rx h.1, i1, by rw [i2]; exact q _ (.bl _)⟩
    · cases e
def fInD (neg : Bool) : D → D → Option D
  | a, .list ds => if okD a && okD (.list ds) then some (.bool (if neg then !ds.any fun z => PyData.eqv z a else ds.any fun z => PyData.eqv z a)) else none
  | _, _ => none
theorem s_inD : OpSh K (rInD K) (fInD false) := OpS.sh fun F H x y dx dy d Q s rx ry e q => by
  cases dy <;> first | (cases e; done) | skip
  rename_i ds
  have e : (if (okD dx && okD (.list ds)) = true then some (PyData.bool (ds.any fun z => PyData.eqv z dx)) else none) = some d := e
  split at e
  · rename_i h
    rw [Bool.and_eq_true] at h
    cases e
    obtain ⟨h1, h2⟩ := okD_ok s rx h.1
    obtain ⟨h3, h4⟩ := okD_ok s ry h.2
    exact ⟨_, _, h1, h3, h2, h4, q _ (.bl _)⟩
  · cases e
theorem s_notInD : OpSh K (rNotInD K) (fInD true) := OpS.sh fun F H x y dx dy d Q s rx ry e q => by
  cases dy <;> first | (cases e; done) | skip
  rename_i ds
  have e : (if (okD dx && okD (.list ds)) = true then some (PyData.bool (!ds.any fun z => PyData.eqv z dx)) else none) = some d := e
  split at e
  · rename_i h
    rw [Bool.and_eq_true] at h
    cases e
    obtain ⟨h1, h2⟩ := okD_ok s rx h.1
    obtain ⟨h3, h4⟩ := okD_ok s ry h.2
    exact ⟨_, _, h1, h3, h2, h4, q _ (.bl _)⟩
  · cases e
/-! items -/
def fIxL : D → D → Option D
  | .list ds, .int i => atI ds i
  | _, _ => none
def fIxT : D → D → Option D
  | .tuple ds, .int i => atI ds i
  | _, _ => none
theorem atI_rp {F : Hp} {xs : List V} {ds : List D} {i : Int} {d : D} (r : RpA K F xs ds) (e : atI ds i = some d) : ∃ v, atI xs i = some v ∧ Rp K F v d := by
  unfold atI at e ⊢
  rw [r.length]
  cases z : ixN ds.length i with
  | none => rw [z] at e; cases e
  | some j =>
    rw [z] at e
    exact r.get' e
theorem s_ixL : OpSh K (rIxL K) fIxL := OpS.sh fun F H x y dx dy d Q s rx ry e q => by
  cases dx <;> first | (cases e; done) | skip
  cases dy <;> first | (cases e; done) | skip
  cases rx with
  | lst h1 h2 =>
    cases ry
    obtain ⟨v, e1, e2⟩ := atI_rp h2 e
    exact ⟨_, _, _, v, rfl, rfl, SqL.of (s _ _ h1), e1, q _ e2⟩
theorem s_ixT : OpSh K (rIxT K) fIxT := OpS.sh fun F H x y dx dy d Q s rx ry e q => by
  cases dx <;> first | (cases e; done) | skip
  cases dy <;> first | (cases e; done) | skip
  cases rx with
  | tup h1 h2 =>
    cases ry
    obtain ⟨v, e1, e2⟩ := atI_rp h2 e
    exact ⟨_, _, _, v, rfl, rfl, s.seqT h1, e1, q _ e2⟩
/-! tests, truth -/
def bl1 : D → Option Bool
  | .bool b => some b
  | _ => none
def mB (m : ME) : MT := fun ρ => (m ρ).bind fun p => match bl1 p.1 with
  | some b => .ok (b, p.2)
  | none => .stuck
theorem bl1_ok {F : Hp} {v : V} {d : D} {b : Bool} (r : Rp K F v d) (e : bl1 d = some b) : v = .bl b := by
  cases r <;> first | (cases e; rfl) | cases e
theorem sht_of {k : VK} (he : ShE K mg E te m) : ∀ (Φ : Fm) (F : Hp) (σ : L2.St) (H : Hp) (ρ : Env) (Q : Bool → Hp → Prop) (W : WXm), R K Φ F σ H ρ → XW K mg Φ E W →
    Good (mB m ρ) (fun p => ∀ F' H', R K Φ F' σ H' p.2 → Same F F' → Q p.1 H') (up F W) → te σ H fun x H1 => ∃ c, x = .bl c ∧ Q c H1 := by
  intro Φ F σ H ρ Q W r x g
  have g1 := Good.bind (r := m ρ) g
  refine he Φ F σ H ρ _ W r x (g1.mono (fun p gp v F1 H1 r1 s1 rv => ?_) fun _ _ _ w => w)
  cases e : bl1 p.1 with
  | none => rw [e] at gp; exact gp.elim
  | some b => rw [e] at gp; exact ⟨b, bl1_ok rv e, gp F1 H1 r1 s1⟩
theorem sht_test (he : ShE K mg E te m) : ShT K mg E (tTest te) (mB m) := fun Φ F σ H ρ Q W r x g => sht_of (k := fun _ _ => True) he Φ F σ H ρ Q W r x g
theorem sht_B (he : ShE K mg E te m) : ShT K mg E (L2.tB te) (mB m) := fun Φ F σ H ρ Q W r x g => sht_of (k := fun _ _ => True) he Φ F σ H ρ Q W r x g
def mAndT (a b : MT) : MT := fun ρ => (a ρ).bind fun p => if p.1 = true then b p.2 else .ok (false, p.2)
def mOrT (a b : MT) : MT := fun ρ => (a ρ).bind fun p => if p.1 = true then .ok (true, p.2) else b p.2
def mNotT (a : MT) : MT := fun ρ => (a ρ).bind fun p => .ok (!p.1, p.2)
theorem sht_and (h1 : ShT K mg E t mt) (h2 : ShT K mg E u mu') : ShT K mg E (tAnd t u) (mAndT mt mu') := by
  intro Φ F σ H ρ Q W r x g
  have g1 := Good.bind (r := mt ρ) g
  refine h1 Φ F σ H ρ _ W r x (g1.mono (fun p gp F1 H1 r1 s1 => ?_) fun _ _ _ w => w)
  by_cases c : p.1 = true
  · rw [if_pos c] at gp ⊢
    exact h2 Φ F1 σ H1 p.2 _ W r1 x (gp.mono (fun q gq F2 H2 r2 s2 => gq F2 H2 r2 (s1.trans s2)) fun _ _ _ w => up.weak s1 w)
  · rw [if_neg c] at gp ⊢
    exact gp F1 H1 r1 s1
theorem sht_or (h1 : ShT K mg E t mt) (h2 : ShT K mg E u mu') : ShT K mg E (tOr t u) (mOrT mt mu') := by
  intro Φ F σ H ρ Q W r x g
  have g1 := Good.bind (r := mt ρ) g
  refine h1 Φ F σ H ρ _ W r x (g1.mono (fun p gp F1 H1 r1 s1 => ?_) fun _ _ _ w => w)
  by_cases c : p.1 = true
  · rw [if_pos c] at gp ⊢
    exact gp F1 H1 r1 s1
  · rw [if_neg c] at gp ⊢
    exact h2 Φ F1 σ H1 p.2 _ W r1 x (gp.mono (fun q gq F2 H2 r2 s2 => gq F2 H2 r2 (s1.trans s2)) fun _ _ _ w => up.weak s1 w)
theorem sht_not (h1 : ShT K mg E t mt) : ShT K mg E (tNot t) (mNotT mt) := by
  intro Φ F σ H ρ Q W r x g
  have g1 := Good.bind (r := mt ρ) g
  exact h1 Φ F σ H ρ _ W r x (g1.mono (fun p gp F1 H1 r1 s1 => gp F1 H1 r1 s1) fun _ _ _ w => w)
def mAndV (a b : ME) : ME := fun ρ => (mB a ρ).bind fun p => if p.1 = true then b p.2 else .ok (.bool false, p.2)
def mOrV (a b : ME) : ME := fun ρ => (mB a ρ).bind fun p => if p.1 = true then .ok (.bool true, p.2) else b p.2
def mNotV (a : ME) : ME := fun ρ => (mB a ρ).bind fun p => .ok (.bool (!p.1), p.2)
theorem sh_andV (h1 : ShE K mg E ta ma) (h2 : ShE K mg E tb mb) : ShE K mg E (tAndV ta tb) (mAndV ma mb) := by
  intro Φ F σ H ρ Q W r x g
  have g1 := Good.bind (r := mB ma ρ) g
  refine sht_of (k := fun _ _ => True) h1 Φ F σ H ρ (fun c H1 => if c = true then tb σ H1 Q else Q (.bl false) H1) W r x (g1.mono (fun p gp F1 H1 r1 s1 => ?_) fun _ _ _ w => w)
  by_cases c : p.1 = true
  · rw [if_pos c] at gp ⊢
    exact h2 Φ F1 σ H1 p.2 _ W r1 x (gp.mono (fun q gq v F2 H2 r2 s2 => gq v F2 H2 r2 (s1.trans s2)) fun _ _ _ w => up.weak s1 w)
  · rw [if_neg c] at gp ⊢
    exact gp _ F1 H1 r1 s1 (.bl false)
theorem sh_orV (h1 : ShE K mg E ta ma) (h2 : ShE K mg E tb mb) : ShE K mg E (tOrV ta tb) (mOrV ma mb) := by
  intro Φ F σ H ρ Q W r x g
  have g1 := Good.bind (r := mB ma ρ) g
  refine sht_of (k := fun _ _ => True) h1 Φ F σ H ρ (fun c H1 => if c = true then Q (.bl true) H1 else tb σ H1 Q) W r x (g1.mono (fun p gp F1 H1 r1 s1 => ?_) fun _ _ _ w => w)
  by_cases c : p.1 = true
  · rw [if_pos c] at gp ⊢
    exact gp _ F1 H1 r1 s1 (.bl true)
  · rw [if_neg c] at gp ⊢
    exact h2 Φ F1 σ H1 p.2 _ W r1 x (gp.mono (fun q gq v F2 H2 r2 s2 => gq v F2 H2 r2 (s1.trans s2)) fun _ _ _ w => up.weak s1 w)
theorem sh_notV (h1 : ShE K mg E ta ma) : ShE K mg E (tNotV ta) (mNotV ma) := by
  intro Φ F σ H ρ Q W r x g
  have g1 := Good.bind (r := mB ma ρ) g
  exact sht_of (k := fun _ _ => True) h1 Φ F σ H ρ (fun c H1 => Q (.bl (!c)) H1) W r x (g1.mono (fun p gp F1 H1 r1 s1 => gp _ F1 H1 r1 s1 (.bl _)) fun _ _ _ w => w)
def mIf (c : MT) (a b : ME) : ME := fun ρ => (c ρ).bind fun p => if p.1 = true then a p.2 else b p.2
theorem sh_if (h0 : ShT K mg E t mt) (h1 : ShE K mg E ta ma) (h2 : ShE K mg E tb mb) : ShE K mg E (tIf t ta tb) (mIf mt ma mb) := by
  intro Φ F σ H ρ Q W r x g
  have g1 := Good.bind (r := mt ρ) g
  refine h0 Φ F σ H ρ _ W r x (g1.mono (fun p gp F1 H1 r1 s1 => ?_) fun _ _ _ w => w)
  by_cases c : p.1 = true
  · rw [if_pos c] at gp ⊢
    exact h1 Φ F1 σ H1 p.2 _ W r1 x (gp.mono (fun q gq v F2 H2 r2 s2 => gq v F2 H2 r2 (s1.trans s2)) fun _ _ _ w => up.weak s1 w)
  · rw [if_neg c] at gp ⊢
    exact h2 Φ F1 σ H1 p.2 _ W r1 x (gp.mono (fun q gq v F2 H2 r2 s2 => gq v F2 H2 r2 (s1.trans s2)) fun _ _ _ w => up.weak s1 w)
def mChain (f g : D → D → Option D) (a b c : ME) : ME := fun ρ => (a ρ).bind fun p => (b p.2).bind fun q => match (f p.1 q.1).bind bl1 with
  | some true => (c q.2).bind fun s => ret (g q.1 s.1) s.2
  | some false => .ok (.bool false, q.2)
  | none => .stuck
theorem sh_chain {r r' : R2} {f g : D → D → Option D} (o1 : OpS K r f) (o2 : OpSh K r' g) (ha : ShE K mg E ta ma) (hb : ShE K mg E tb mb) (hc : ShE K mg E tc mc) : ShE K mg E (tChain r r' ta tb tc) (mChain f g ma mb mc) := by
  intro Φ F σ H ρ Q W rr x gg
  have g1 := Good.bind (r := ma ρ) gg
  refine ha Φ F σ H ρ _ W rr x (g1.mono (fun p gp v F1 H1 r1 s1 rv => ?_) fun _ _ _ w => w)
  have g2 := gp.bind
  refine hb Φ F1 σ H1 p.2 _ W r1 x (g2.mono (fun q gq v2 F2 H2 r2 s2 rv2 => ?_) fun _ _ _ w => up.weak s1 w)
  cases e : f p.1 q.1 with
  | none => rw [e] at gq; exact gq.elim
  | some d =>
    rw [e] at gq
    have gq : Good (match bl1 d with | some true => (mc q.2).bind fun s => ret (g q.1 s.1) s.2 | some false => .ok (.bool false, q.2) | none => .stuck) (fun p => ∀ v F' H', R K Φ F' σ H' p.2 → Same F F' → Rp K F' v p.1 → Q v H') (up F W) := gq
    refine o1 F2 H2 v v2 _ _ d _ r2.sub (rv.mono s2) rv2 e fun z rz => ?_
    cases eb : bl1 d with
    | none => rw [eb] at gq; exact gq.elim
    | some b =>
      rw [eb] at gq
      cases b with
      | false => exact ⟨false, bl1_ok rz eb, by rw [if_neg Bool.false_ne_true]; exact gq _ F2 H2 r2 (s1.trans s2) (.bl _)⟩
      | true =>
        refine ⟨true, bl1_ok rz eb, ?_⟩
        rw [if_pos rfl]
        have g3 := Good.bind (r := mc q.2) gq
        refine hc Φ F2 σ H2 q.2 _ W r2 x (g3.mono (fun s gs v3 F3 H3 r3 s3 rv3 => ?_) fun _ _ _ w => up.weak (s1.trans s2) w)
        unfold ret at gs
        cases e3 : g q.1 s.1 with
        | none => rw [e3] at gs; exact gs.elim
        | some d3 =>
          rw [e3] at gs
          exact o2 Φ F3 σ H3 s.2 v2 v3 _ _ d3 Q r3 (rv2.mono s3) rv3 e3 fun v4 F4 H4 r4 s4 rv4 => gs v4 F4 H4 r4 (((s1.trans s2).trans s3).trans s4) rv4
theorem c_lt : OpS K (rI0 fun i j => .bl (decide (i < j))) fLt := ops_int0 fun _ _ _ => .bl _
theorem c_le : OpS K (rI0 fun i j => .bl (decide (i ≤ j))) fLe := ops_int0 fun _ _ _ => .bl _
/-! displays -/
def mTup (ms : List ME) : ME := fun ρ => (mA ms ρ).bind fun p => .ok (.tuple p.1, p.2)
theorem sh_tup (h : ShA K mg E tr ms) (hl : ms.length ≤ 1000) : ShE K mg E (tTup tr) (mTup ms) := by
  intro Φ F σ H ρ Q W r x g
  have g1 := Good.bind (r := mA ms ρ) g
  refine h Φ F σ H ρ _ W r x (g1.mono (fun p gp vs F1 H1 r1 s1 rv el => ?_) fun _ _ _ w => w)
  refine ⟨by rw [el, sizeLine_eq]; omega, fun a na => ?_⟩
  obtain ⟨r2, s2⟩ := r1.alloc (o := .tup vs) na
  exact gp _ _ _ r2 (s1.trans s2) (.tup (SqT.of upd_same) (rv.mono s2))
def mLst (ms : List ME) : ME := fun ρ => (mA ms ρ).bind fun p => .ok (.list p.1, p.2)
theorem shf_lst (h : ShA K mg E tr ms) (hl : ms.length ≤ 1000) : ShF K mg E (tLst tr) (mLst ms) := by
  intro Φ F σ H ρ Q W r x g
  have g1 := Good.bind (r := mA ms ρ) g
  refine h Φ F σ H ρ _ W r x (g1.mono (fun p gp vs F1 H1 r1 s1 rv el => ?_) fun _ _ _ w => w)
  refine ⟨by rw [el, sizeLine_eq]; omega, fun a na => ?_⟩
  obtain ⟨r2, nF, n0, ap⟩ := r1.allocO (o := .lst vs) na
  exact gp a _ _ r2 s1 nF n0 ap ⟨vs, upd_same, rv⟩
/-- {} -/
def mDict0 : ME := fun ρ => .ok (.dict [], ρ)
theorem shf_dnew : ShF K mg E tDNewK mDict0 := by
  intro Φ F σ H ρ Q W r x g a na
  obtain ⟨r2, nF, n0, ap⟩ := r.allocO (o := .dK []) na
  exact g a _ _ r2 (Same.refl _) nF n0 ap ⟨[], upd_same, .nil⟩
/-! calls of built-ins by values -/
def CbSh (K : PySem.W.Frag) (r : List V → Hp → VK → Prop) (f : List D → Option D) : Prop := ∀ (Φ : Fm) (F : Hp) (σ : L2.St) (H : Hp) (ρ : Env) (xs : List V) (ds : List D) (d : D) (Q : VK), R K Φ F σ H ρ → RpA K F xs ds → f ds = some d →
  (∀ v F' H', R K Φ F' σ H' ρ → Same F F' → Rp K F' v d → Q v H') → r xs H Q
def mCB (f : List D → Option D) (ms : List ME) : ME := fun ρ => (mA ms ρ).bind fun p => ret (f p.1) p.2
theorem sh_cb {r : List V → Hp → VK → Prop} {f : List D → Option D} (ho : CbSh K r f) (h : ShA K mg E tr ms) : ShE K mg E (tCB r tr) (mCB f ms) := by
  intro Φ F σ H ρ Q W rr x g
  have g1 := Good.bind (r := mA ms ρ) g
  refine h Φ F σ H ρ _ W rr x (g1.mono (fun p gp vs F1 H1 r1 s1 rv el => ?_) fun _ _ _ w => w)
  unfold ret at gp
  cases e : f p.1 with
  | none => rw [e] at gp; exact gp.elim
  | some d =>
    rw [e] at gp
    exact ho Φ F1 σ H1 p.2 vs _ d Q r1 rv e fun v3 F3 H3 r3 s3 rv3 => gp v3 F3 H3 r3 (s1.trans s3) rv3
/-- one that makes a list -/
def CbF (K : PySem.W.Frag) (r : List V → Hp → VK → Prop) (f : List D → Option D) : Prop := ∀ (F H : Hp) (xs : List V) (ds : List D) (d : D) (Q : VK), Same F H → RpA K F xs ds → f ds = some d →
  (∀ a ys es, H a = none → d = .list es → RpA K F ys es → Q (.ref a) (upd H a (.lst ys))) → r xs H Q
theorem shf_cb {r : List V → Hp → VK → Prop} {f : List D → Option D} (ho : CbF K r f) (h : ShA K mg E tr ms) : ShF K mg E (tCB r tr) (mCB f ms) := by
  intro Φ F σ H ρ Q W rr x g
  have g1 := Good.bind (r := mA ms ρ) g
  refine h Φ F σ H ρ _ W rr x (g1.mono (fun p gp vs F1 H1 r1 s1 rv el => ?_) fun _ _ _ w => w)
  unfold ret at gp
  cases e : f p.1 with
  | none => rw [e] at gp; exact gp.elim
  | some d =>
    rw [e] at gp
    refine ho F1 H1 vs _ d Q r1.sub rv e fun a ys es na ed rys => ?_
    subst ed
    obtain ⟨r2, nF, n0, ap⟩ := r1.allocO (o := .lst ys) na
    exact gp a _ _ r2 s1 nF n0 ap ⟨ys, upd_same, rys⟩
def CbS (K : PySem.W.Frag) (r : List V → Hp → VK → Prop) (f : List D → Option D) : Prop := ∀ (F H : Hp) (xs : List V) (ds : List D) (d : D) (Q : VK), Same F H → RpA K F xs ds → f ds = some d → (∀ v, Rp K F v d → Q v H) → r xs H Q
theorem CbS.sh {r : List V → Hp → VK → Prop} {f : List D → Option D} (h : CbS K r f) : CbSh K r f := fun Φ F σ H ρ xs ds d Q rr rx e q => h F H xs ds d Q rr.sub rx e fun v rv => q v F H rr (Same.refl _) rv
theorem one_rp {F : Hp} {xs : List V} {d : D} (r : RpA K F xs [d]) : ∃ v, xs = [v] ∧ Rp K F v d := by
  cases r with
  | cons h t => cases t; exact ⟨_, rfl, h⟩
theorem two_rp {F : Hp} {xs : List V} {d e : D} (r : RpA K F xs [d, e]) : ∃ v w, xs = [v, w] ∧ Rp K F v d ∧ Rp K F w e := by
  cases r with
  | cons h t =>
    obtain ⟨w, rfl, hw⟩ := one_rp t
    exact ⟨_, w, rfl, h, hw⟩
def cbLen : List D → Option D
  | [.list ds] => some (.int ds.length)
  | [.tuple ds] => some (.int ds.length)
  | [.dict [(.none, .list ds)]] => some (.int ds.length)
  | _ => none
theorem cs_len : CbSh K (fun xs H Q => ∃ p ys, xs = [.ref p] ∧ (SqL K H p ys ∨ SqT K H p ys) ∧ Q (.int ys.length) H) cbLen := CbS.sh fun F H xs ds d Q s rx e q => by
  unfold cbLen at e
  split at e
  · obtain ⟨v, rfl, hv⟩ := one_rp rx
    cases e
    cases hv with
    | lst h1 h2 => exact ⟨_, _, rfl, .inl (SqL.of (s _ _ h1)), by rw [h2.length]; exact q _ (.int _)⟩
  · obtain ⟨v, rfl, hv⟩ := one_rp rx
    cases e
    cases hv with
    | tup h1 h2 => exact ⟨_, _, rfl, .inr (s.seqT h1), by rw [h2.length]; exact q _ (.int _)⟩
  · obtain ⟨v, rfl, hv⟩ := one_rp rx
    cases e
    generalize ez : PyData.dict [(PyData.none, PyData.list _)] = z at hv
    cases hv <;> (try cases ez)
    · rename_i h1 h2
      exact ⟨_, _, rfl, .inl (s.seq h1), by rw [h2.length]; exact q _ (.int _)⟩
    · rename_i a kvs h1 h2
      generalize ey : (PyData.none, PyData.list _) = y at h2
      cases h2 with
      | @cons k v vs d ds q1 q2 => cases k <;> cases ey
  · cases e
def cbAbs : List D → Option D
  | [.int i] => some (.int (if i < 0 then -i else i))
  | _ => none
theorem cs_abs : CbSh K (fun xs H Q => ∃ i, xs = [.int i] ∧ Q (.int (if i < 0 then -i else i)) H) cbAbs := CbS.sh fun F H xs ds d Q s rx e q => by
  unfold cbAbs at e
  split at e
  · obtain ⟨v, rfl, hv⟩ := one_rp rx
    cases e
    cases hv
    exact ⟨_, rfl, q _ (.int _)⟩
  · cases e
def cbMin2 : List D → Option D
  | [.int i, .int j] => some (.int (if j < i then j else i))
  | _ => none
def cbMax2 : List D → Option D
  | [.int i, .int j] => some (.int (if j > i then j else i))
  | _ => none
theorem cs_min2 : CbSh K (fun xs H Q => ∃ i j, xs = [.int i, .int j] ∧ Q (.int (if j < i then j else i)) H) cbMin2 := CbS.sh fun F H xs ds d Q s rx e q => by
  unfold cbMin2 at e
  split at e
  · obtain ⟨v, w, rfl, hv, hw⟩ := two_rp rx
    cases e
    cases hv
    cases hw
    exact ⟨_, _, rfl, q _ (.int _)⟩
  · cases e
theorem cs_max2 : CbSh K (fun xs H Q => ∃ i j, xs = [.int i, .int j] ∧ Q (.int (if j > i then j else i)) H) cbMax2 := CbS.sh fun F H xs ds d Q s rx e q => by
  unfold cbMax2 at e
  split at e
  · obtain ⟨v, w, rfl, hv, hw⟩ := two_rp rx
    cases e
    cases hv
    cases hw
    exact ⟨_, _, rfl, q _ (.int _)⟩
  · cases e
def cbInt : List D → Option D
  | [.int i] => some (.int i)
  | [.bool b] => some (.int (if b then 1 else 0))
  | _ => none
theorem cs_int : CbSh K (fun xs H Q => (∃ i, xs = [.int i] ∧ Q (.int i) H) ∨ ∃ k, xs = [.bl k] ∧ Q (.int (if k then 1 else 0)) H) cbInt := CbS.sh fun F H xs ds d Q s rx e q => by
  unfold cbInt at e
  split at e
  · obtain ⟨v, rfl, hv⟩ := one_rp rx
    cases e
    cases hv
    exact .inl ⟨_, rfl, q _ (.int _)⟩
  · obtain ⟨v, rfl, hv⟩ := one_rp rx
    cases e
    cases hv
    exact .inr ⟨_, rfl, q _ (.int _)⟩
  · cases e
def intsD : List D → Option (List Int)
  | [] => some []
  | .int i :: r => (intsD r).map (i :: ·)
  | _ => none
theorem intsD_eq : ∀ {ds : List D} {ns : List Int}, intsD ds = some ns → ds = ns.map PyData.int
  | [], ns, e => by cases e; rfl
  | .int i :: r, ns, e => by
    unfold intsD at e
    cases z : intsD r with
    | none => rw [z] at e; cases e
    | some ms => rw [z] at e; cases e; rw [intsD_eq z]; rfl
  | .none :: _, _, e => by cases e
  | .bool _ :: _, _, e => by cases e
  | .str _ :: _, _, e => by cases e
  | .list _ :: _, _, e => by cases e
  | .tuple _ :: _, _, e => by cases e
  | .dict _ :: _, _, e => by cases e
theorem intsD_map : ∀ ns : List Int, intsD (ns.map PyData.int) = some ns
  | [] => rfl
  | n :: ns => by show (intsD (ns.map PyData.int)).map (n :: ·) = _; rw [intsD_map ns]; rfl
def boolsD : List D → Option (List Bool)
  | [] => some []
  | .bool i :: r => (boolsD r).map (i :: ·)
  | _ => none
theorem boolsD_eq : ∀ {ds : List D} {ns : List Bool}, boolsD ds = some ns → ds = ns.map PyData.bool
  | [], ns, e => by cases e; rfl
  | .bool i :: r, ns, e => by
    unfold boolsD at e
    cases z : boolsD r with
    | none => rw [z] at e; cases e
    | some ms => rw [z] at e; cases e; rw [boolsD_eq z]; rfl
  | .none :: _, _, e => by cases e
  | .int _ :: _, _, e => by cases e
  | .str _ :: _, _, e => by cases e
  | .list _ :: _, _, e => by cases e
  | .tuple _ :: _, _, e => by cases e
  | .dict _ :: _, _, e => by cases e
theorem boolsD_map : ∀ ns : List Bool, boolsD (ns.map PyData.bool) = some ns
  | [] => rfl
  | n :: ns => by show (boolsD (ns.map PyData.bool)).map (n :: ·) = _; rw [boolsD_map ns]; rfl
def cbSum : List D → Option D
  | [.list ds] => (intsD ds).map fun ns => .int ns.sum
  | _ => none
theorem cs_sum : CbSh K (rSum K) cbSum := CbS.sh fun F H xs ds d Q s rx e q => by
  unfold cbSum at e
  split at e
  · rename_i es
    obtain ⟨v, rfl, hv⟩ := one_rp rx
    cases z : intsD es with
    | none => rw [z] at e; cases e
    | some ns =>
      rw [z] at e
      cases e
      cases hv with
      | lst h1 h2 => exact ⟨_, ns, rfl, by rw [← h2.ints (intsD_eq z)]; exact SqL.of (s _ _ h1), q _ (.int _)⟩
  · cases e
def cbAny : List D → Option D
  | [.list ds] => (boolsD ds).map fun ns => .bool (ns.any id)
  | _ => none
theorem cs_any : CbSh K (rAny K) cbAny := CbS.sh fun F H xs ds d Q s rx e q => by
  unfold cbAny at e
  split at e
  · rename_i es
    obtain ⟨v, rfl, hv⟩ := one_rp rx
    cases z : boolsD es with
    | none => rw [z] at e; cases e
    | some ns =>
      rw [z] at e
      cases e
      cases hv with
      | lst h1 h2 => exact ⟨_, ns, rfl, by rw [← h2.bools (boolsD_eq z)]; exact SqL.of (s _ _ h1), q _ (.bl _)⟩
  · cases e
def cbAll : List D → Option D
  | [.list ds] => (boolsD ds).map fun ns => .bool (ns.all id)
  | _ => none
theorem cs_all : CbSh K (rAll K) cbAll := CbS.sh fun F H xs ds d Q s rx e q => by
  unfold cbAll at e
  split at e
  · rename_i es
    obtain ⟨v, rfl, hv⟩ := one_rp rx
    cases z : boolsD es with
    | none => rw [z] at e; cases e
    | some ns =>
      rw [z] at e
      cases e
      cases hv with
      | lst h1 h2 => exact ⟨_, ns, rfl, by rw [← h2.bools (boolsD_eq z)]; exact SqL.of (s _ _ h1), q _ (.bl _)⟩
  · cases e
def maxI : List Int → Option Int
  | [] => none
  | n :: ns => some (ns.foldl (fun a b => if b > a then b else a) n)
def minI : List Int → Option Int
  | [] => none
  | n :: ns => some (ns.foldl (fun a b => if b < a then b else a) n)
theorem fold_max : ∀ (ns : List Int) (n : Int), (ns.foldl (fun a b => if b > a then b else a) n = n ∨ ns.foldl (fun a b => if b > a then b else a) n ∈ ns) ∧ n ≤ ns.foldl (fun a b => if b > a then b else a) n ∧ ∀ y ∈ ns, y ≤ ns.foldl (fun a b => if b > a then b else a) n
  | [], n => ⟨.inl rfl, Int.le_refl _, fun _ h => by cases h⟩
  | m :: ns, n => by
    obtain ⟨h1, h2, h3⟩ := fold_max ns (if m > n then m else n)
    rw [List.foldl_cons]
    have hm : m ≤ (if m > n then m else n) ∧ n ≤ (if m > n then m else n) := by split <;> omega
    refine ⟨?_, by omega, fun y hy => ?_⟩
    · rcases h1 with h1 | h1
      · rw [h1]
        split
        · exact .inr (List.mem_cons_self ..)
        · exact .inl rfl
      · exact .inr (List.mem_cons_of_mem _ h1)
    · rcases List.mem_cons.mp hy with rfl | hy
      · omega
      · exact h3 y hy
theorem fold_min : ∀ (ns : List Int) (n : Int), (ns.foldl (fun a b => if b < a then b else a) n = n ∨ ns.foldl (fun a b => if b < a then b else a) n ∈ ns) ∧ ns.foldl (fun a b => if b < a then b else a) n ≤ n ∧ ∀ y ∈ ns, ns.foldl (fun a b => if b < a then b else a) n ≤ y
  | [], n => ⟨.inl rfl, Int.le_refl _, fun _ h => by cases h⟩
  | m :: ns, n => by
    obtain ⟨h1, h2, h3⟩ := fold_min ns (if m < n then m else n)
    rw [List.foldl_cons]
    have hm : (if m < n then m else n) ≤ m ∧ (if m < n then m else n) ≤ n := by split <;> omega
    refine ⟨?_, by omega, fun y hy => ?_⟩
    · rcases h1 with h1 | h1
      · rw [h1]
        split
        · exact .inr (List.mem_cons_self ..)
        · exact .inl rfl
      · exact .inr (List.mem_cons_of_mem _ h1)
    · rcases List.mem_cons.mp hy with rfl | hy
      · omega
      · exact h3 y hy
theorem maxI_ok {ns : List Int} {m : Int} (h : maxI ns = some m) : m ∈ ns ∧ ∀ y ∈ ns, y ≤ m := by
  cases ns with
  | nil => cases h
  | cons n ns =>
    cases h
    obtain ⟨h1, h2, h3⟩ := fold_max ns n
    refine ⟨?_, fun y hy => ?_⟩
    · rcases h1 with h1 | h1
      · rw [h1]; exact List.mem_cons_self ..
      · exact List.mem_cons_of_mem _ h1
    · rcases List.mem_cons.mp hy with rfl | hy
      · exact h2
      · exact h3 y hy
theorem minI_ok {ns : List Int} {m : Int} (h : minI ns = some m) : m ∈ ns ∧ ∀ y ∈ ns, m ≤ y := by
  cases ns with
  | nil => cases h
  | cons n ns =>
    cases h
    obtain ⟨h1, h2, h3⟩ := fold_min ns n
    refine ⟨?_, fun y hy => ?_⟩
    · rcases h1 with h1 | h1
      · rw [h1]; exact List.mem_cons_self ..
      · exact List.mem_cons_of_mem _ h1
    · rcases List.mem_cons.mp hy with rfl | hy
      · exact h2
      · exact h3 y hy
def cbMax : List D → Option D
  | [.list ds] => ((intsD ds).bind maxI).map .int
  | _ => none
def cbMin : List D → Option D
  | [.list ds] => ((intsD ds).bind minI).map .int
  | _ => none
theorem cs_max : CbSh K (rMax K) cbMax := CbS.sh fun F H xs ds d Q s rx e q => by
  unfold cbMax at e
  split at e
  · rename_i es
    obtain ⟨v, rfl, hv⟩ := one_rp rx
    cases z : intsD es with
    | none => rw [z] at e; cases e
    | some ns =>
      rw [z] at e
      cases zm : maxI ns with
      | none => simp [zm] at e
      | some m =>
        simp [zm] at e
        subst e
        obtain ⟨o1, o2⟩ := maxI_ok zm
        cases hv with
        | lst h1 h2 =>
          refine ⟨_, ns, rfl, by rw [← h2.ints (intsD_eq z)]; exact SqL.of (s _ _ h1), List.length_pos_of_mem o1, fun m' hm' hy' => ?_⟩
          have e : m' = m := by have := o2 m' hm'; have := hy' m o1; omega
          subst e
          exact q _ (.int _)
  · cases e
theorem cs_min : CbSh K (rMin K) cbMin := CbS.sh fun F H xs ds d Q s rx e q => by
  unfold cbMin at e
  split at e
  · rename_i es
    obtain ⟨v, rfl, hv⟩ := one_rp rx
    cases z : intsD es with
    | none => rw [z] at e; cases e
    | some ns =>
      rw [z] at e
      cases zm : minI ns with
      | none => simp [zm] at e
      | some m =>
        simp [zm] at e
        subst e
        obtain ⟨o1, o2⟩ := minI_ok zm
        cases hv with
        | lst h1 h2 =>
          refine ⟨_, ns, rfl, by rw [← h2.ints (intsD_eq z)]; exact SqL.of (s _ _ h1), List.length_pos_of_mem o1, fun m' hm' hy' => ?_⟩
          have e : m' = m := by have := o2 m' hm'; have := hy' m o1; omega
          subst e
          exact q _ (.int _)
  · cases e
def cbList : List D → Option D
  | [.list ds] => some (.list ds)
  | [.tuple ds] => some (.list ds)
  | _ => none
theorem cf_list : CbF K (fun xs H Q => ∃ p ys, xs = [.ref p] ∧ (SqL K H p ys ∨ SqT K H p ys) ∧ ∀ l, H l = none → Q (.ref l) (upd H l (.lst ys))) cbList := fun F H xs ds d Q s rx e q => by
  unfold cbList at e
  split at e
  · obtain ⟨v, rfl, hv⟩ := one_rp rx
    cases e
    cases hv with
    | lst h1 h2 => exact ⟨_, _, rfl, .inl (SqL.of (s _ _ h1)), fun l hl => q l _ _ hl rfl h2⟩
  · obtain ⟨v, rfl, hv⟩ := one_rp rx
    cases e
    cases hv with
    | tup h1 h2 => exact ⟨_, _, rfl, .inr (s.seqT h1), fun l hl => q l _ _ hl rfl h2⟩
  · cases e
def cbTup : List D → Option D
  | [.list ds] => some (.tuple ds)
  | [.tuple ds] => some (.tuple ds)
  | _ => none
theorem cs_tup : CbSh K (fun xs H Q => ∃ p ys, xs = [.ref p] ∧ ((SqL K H p ys ∧ ∀ l, H l = none → Q (.ref l) (upd H l (.tup ys))) ∨ (SqT K H p ys ∧ Q (.ref p) H))) cbTup := fun Φ F σ H ρ xs ds d Q rr rx e q => by
  unfold cbTup at e
  split at e
  · obtain ⟨v, rfl, hv⟩ := one_rp rx
    cases e
    cases hv with
    | lst h1 h2 =>
      refine ⟨_, _, rfl, .inl ⟨SqL.of (rr.sub _ _ h1), fun l hl => ?_⟩⟩
      obtain ⟨r2, s2⟩ := rr.alloc (o := .tup _) hl
      exact q _ _ _ r2 s2 (.tup (SqT.of upd_same) (h2.mono s2))
  · obtain ⟨v, rfl, hv⟩ := one_rp rx
    cases e
    have hv' := hv
    cases hv with
    | tup h1 h2 => exact ⟨_, _, rfl, .inr ⟨rr.sub.seqT h1, q _ F H rr (Same.refl _) hv'⟩⟩
  · cases e
def cbDivmod : List D → Option D
  | [.int i, .int j] => if (decide (0 < j) && decide (j < 1073741824)) = true then some (.tuple [.int (i / j), .int (i % j)]) else none
  | _ => none
theorem cs_divmod : CbSh K (fun xs H Q => ∃ i j, xs = [.int i, .int j] ∧ CDiv i j ∧ ∀ p, H p = none → Q (.ref p) (upd H p (.tup [.int (i / j), .int (i % j)]))) cbDivmod := fun Φ F σ H ρ xs ds d Q rr rx e q => by
  unfold cbDivmod at e
  split at e
  · obtain ⟨v, w, rfl, hv, hw⟩ := two_rp rx
    split at e
    · rename_i h
      simp only [Bool.and_eq_true, decide_eq_true_eq] at h
      cases e
      cases hv
      cases hw
      refine ⟨_, _, rfl, h, fun p hp => ?_⟩
      obtain ⟨r2, s2⟩ := rr.alloc (o := .tup _) hp
      exact q _ _ _ r2 s2 (.tup (SqT.of upd_same) (.cons (.int _) (.cons (.int _) .nil)))
    · cases e
  · cases e
end
end Mi

set_option Elab.async false
set_option linter.all false
set_option maxRecDepth 100000
namespace Mi
open PySem PySem.Spec PyProof.Rows L2
section
variable {K : PySem.W.Frag} {mg : Str → Option Value} {Φ : Fm} {F H : Hp} {σ : L2.St} {ρ : Env}
/-! more about R -/
theorem R.reslot {F' H' : Hp} {σ1 σ2 : L2.St} {ρ1 ρ2 : Env} (h : R K Φ F' σ1 H' ρ1) (len : σ2.length = ρ2.length)
    (sl : ∀ (i : Nat) (s : Sl), ρ2[i]? = some s → s = .no ∨ (∃ d v, s = .val d ∧ σ2[i]? = some (some v) ∧ Rp K F' v d) ∨ (ρ1[i]? = some s ∧ σ2[i]? = σ1[i]?))
    (io : ∀ a, Φ.io = some a → ρ2[0]? = ρ1[0]? ∧ σ2[0]? = σ1[0]?) : R K Φ F' σ2 H' ρ2 := by
  have low : ∀ (i : Nat) d, ρ2[i]? = some (.own d) → ρ1[i]? = some (.own d) ∧ σ2[i]? = σ1[i]? := fun i d e => by
    rcases sl i _ e with z | ⟨_, _, z, _⟩ | z
    · cases z
    · cases z
    · exact z
  refine ⟨len, h.sub, h.sub0, h.new, h.kept, h.dom, fun i s e => ?_, fun i j a d e q1 q2 f1 f2 => ?_, fun a e => ?_, fun i d e => ?_⟩
  · rcases sl i s e with rfl | ⟨d, v, rfl, e1, e2⟩ | ⟨e1, e2⟩
    · trivial
    · exact ⟨v, e1, e2⟩
    · rw [e2]; exact h.sl i s e1
  · obtain ⟨u1, u2⟩ := low i d q1
    obtain ⟨w1, w2⟩ := low j e q2
    rw [u2] at f1
    rw [w2] at f2
    exact h.dis i j a d e u1 w1 f1 f2
  · obtain ⟨z1, z2⟩ := io a e
    rw [z1, z2]
    exact h.io1 a e
  · rcases sl i _ e with z | ⟨_, _, z, _⟩ | z
    · cases z
    · cases z
    · exact h.io2 i d z.1
theorem R.io_not (h : R K Φ F σ H ρ) {i : Nat} (n : notIo ρ i = true) {a : Addr} (e : Φ.io = some a) : i ≠ 0 := by
  obtain ⟨_, _, d, q, _⟩ := h.io1 a e
  rintro rfl
  unfold notIo at n
  rw [q] at n
  cases n
theorem R.unset (h : R K Φ F σ H ρ) {i : Nat} (n : notIo ρ i = true) : R K Φ F (σ.set i none) H (ρ.set i .no) := by
  refine h.reslot (by rw [List.length_set, List.length_set, h.len]) (fun j s e => ?_) fun a e => ?_
  · rcases getset e with ⟨_, rfl, _⟩ | ⟨z, e'⟩
    · exact .inl rfl
    · exact .inr (.inr ⟨e', List.getElem?_set_ne z⟩)
  · have z := h.io_not n e
    exact ⟨List.getElem?_set_ne z, List.getElem?_set_ne z⟩
def wipeE (ρ : Env) : List Nat → Env
  | [] => ρ
  | v :: vs => (wipeE ρ vs).set v .no
theorem notIo_set {i j : Nat} (h : notIo ρ i = true) : notIo (ρ.set j .no) i = true := by
  unfold notIo at h ⊢
  split
  · rename_i z
    rcases getset z with ⟨_, z, _⟩ | ⟨_, z⟩
    · cases z
    · rw [z] at h; cases h
  · rfl
theorem notIo_wipe {i : Nat} (h : notIo ρ i = true) : ∀ vs : List Nat, notIo (wipeE ρ vs) i = true
  | [] => h
  | v :: vs => notIo_set (notIo_wipe h vs)
theorem R.wipe (h : R K Φ F σ H ρ) : ∀ vs : List Nat, vs.all (notIo ρ) = true → R K Φ F (L2.wipe σ vs) H (wipeE ρ vs)
  | [], _ => h
  | v :: vs, e => by
    rw [List.all_cons, Bool.and_eq_true] at e
    exact (R.wipe h vs e.2).unset (notIo_wipe e.1 vs)
/-- the slots of a block's own names, as they were -/
def restE (ρ0 ρ : Env) : List Nat → Env
  | [] => ρ
  | v :: vs => (restE ρ0 ρ vs).set v (match ρ0[v]? with | some (.val d) => .val d | _ => .no)
theorem restE_length (ρ0 : Env) : ∀ vs : List Nat, (restE ρ0 ρ vs).length = ρ.length
  | [] => rfl
  | v :: vs => by unfold restE; rw [List.length_set, restE_length ρ0 vs]
theorem wipeE_length : ∀ vs : List Nat, (wipeE ρ vs).length = ρ.length
  | [] => rfl
  | v :: vs => by unfold wipeE; rw [List.length_set, wipeE_length vs]
theorem restE_get (ρ0 : Env) {i : Nat} {s : Sl} : ∀ vs : List Nat, (restE ρ0 ρ vs)[i]? = some s → (i ∈ vs ∧ (s = .no ∨ ∃ d, s = .val d ∧ ρ0[i]? = some (.val d))) ∨ (i ∉ vs ∧ ρ[i]? = some s)
  | [], e => .inr ⟨List.not_mem_nil, e⟩
  | v :: vs, e => by
    unfold restE at e
    rcases getset e with ⟨rfl, z, _⟩ | ⟨z, e'⟩
    · refine .inl ⟨List.mem_cons_self .., ?_⟩
      split at z
      · rename_i d q
        exact .inr ⟨d, z, q⟩
      · exact .inl z
    · rcases restE_get ρ0 vs e' with ⟨h1, h2⟩ | ⟨h1, h2⟩
      · exact .inl ⟨List.mem_cons_of_mem _ h1, h2⟩
      · exact .inr ⟨fun q => by rcases List.mem_cons.mp q with q | q; exact z q.symm; exact h1 q, h2⟩
theorem wipe_out {i : Nat} : ∀ {vs : List Nat}, i ∉ vs → (L2.wipe σ vs)[i]? = σ[i]?
  | [], _ => rfl
  | v :: vs, h => by
    unfold L2.wipe
    rw [List.getElem?_set_ne (fun z => h (by rw [z]; exact List.mem_cons_self ..))]
    exact wipe_out fun z => h (List.mem_cons_of_mem _ z)
theorem R.rest {F' H' : Hp} {ρ' : Env} (h : R K Φ F σ H ρ) (h' : R K Φ F' (L2.wipe σ vs) H' ρ') (s : Same F F') (n : vs.all (notIo ρ) = true) : R K Φ F' σ H' (restE ρ ρ' vs) := by
  refine h'.reslot ?_ (fun i s' e => ?_) fun a e => ?_
  · have := h'.len
    rw [L2.wipe_length] at this
    rw [restE_length, this]
  · rcases restE_get ρ vs e with ⟨_, rfl | ⟨d, rfl, q⟩⟩ | ⟨h1, h2⟩
    · exact .inl rfl
    · obtain ⟨v, q1, q2⟩ := h.sl i _ q
      exact .inr (.inl ⟨d, v, rfl, q1, q2.mono s⟩)
    · exact .inr (.inr ⟨h2, (wipe_out h1).symm⟩)
  · have z : 0 ∉ vs := fun z => absurd rfl (h.io_not (List.all_eq_true.mp n _ z) e)
    refine ⟨?_, (wipe_out z).symm⟩
    have hl : 0 < ρ'.length := by
      obtain ⟨_, _, d, q, _⟩ := h'.io1 a e
      exact (List.getElem?_eq_some_iff.mp q).1
    have hl2 : 0 < (restE ρ ρ' vs).length := by rw [restE_length]; exact hl
    rcases restE_get ρ vs (i := 0) (List.getElem?_eq_getElem hl2) with ⟨h1, _⟩ | ⟨_, h2⟩
    · exact absurd h1 z
    · rw [h2, List.getElem?_eq_getElem hl2]
/-- an object that is not the def's to change while a part is read -/
def prot (Φ : Fm) (p : Addr) (o : HO) : Fm := ⟨upd Φ.H0 p o, Φ.io, Φ.F0⟩
theorem R.protect (h : R K Φ F σ H ρ) {p : Addr} {o : HO} (e : H p = some o) (nF : F p = none) (n0 : Φ.H0 p = none) (ap : ∀ (j : Nat) d, ρ[j]? = some (.own d) → σ[j]? ≠ some (some (.ref p))) : R K (prot Φ p o) F σ H ρ := by
  refine ⟨h.len, h.sub, h.sub0, fun b n z => ?_, fun b u q z => ?_, fun b q => ?_, fun i s q => ?_, h.dis, fun a q => ?_, h.io2⟩
  · by_cases y : b = p
    · subst y; exact nF
    · exact h.new b n (by have : (upd Φ.H0 p o) b ≠ none := z; rw [upd_ne y] at this; exact this)
  · have q : (upd Φ.H0 p o) b = some u := q
    by_cases y : b = p
    · subst y; rw [upd_same] at q; cases q; exact e
    · rw [upd_ne y] at q; exact h.kept b u q z
  · show (upd Φ.H0 p o) b = none
    rw [upd_ne (by rintro rfl; rw [e] at q; cases q)]
    exact h.dom b q
  · have w := h.sl i s q
    cases s with
    | no => trivial
    | val d => exact w
    | own d =>
      obtain ⟨a, w1, w2, w3, w4⟩ := w
      exact ⟨a, w1, w2, by show (upd Φ.H0 p o) a = none; rw [upd_ne (by rintro rfl; exact ap i d q w1)]; exact w3, w4⟩
    | io d => trivial
  · obtain ⟨w1, w2⟩ := h.io1 a q
    exact ⟨by show (upd Φ.H0 p o) a ≠ none; rw [upd_ne (by rintro rfl; exact w1 n0)]; exact w1, w2⟩
/-- it stands as it was; it may change now -/
theorem R.unprot {p : Addr} {o u : HO} (h : R K (prot Φ p o) F σ H ρ) (n0 : Φ.H0 p = none) (n1 : Φ.F0 p = none) (ni : Φ.io ≠ some p) :
    H p = some o ∧ F p = none ∧ (∀ (j : Nat) d, ρ[j]? = some (.own d) → σ[j]? ≠ some (some (.ref p))) ∧ R K Φ F σ (upd H p u) ρ := by
  have e : H p = some o := h.kept p o upd_same ni
  have nF : F p = none := h.new p n1 (by show (upd Φ.H0 p o) p ≠ none; rw [upd_same]; exact fun z => by cases z)
  have ap : ∀ (j : Nat) d, ρ[j]? = some (.own d) → σ[j]? ≠ some (some (.ref p)) := fun j d q z => by
    obtain ⟨a, w1, w2, w3, w4⟩ := h.sl j _ q
    rw [z] at w1
    cases w1
    have w3 : (upd Φ.H0 p o) p = none := w3
    rw [upd_same] at w3
    cases w3
  refine ⟨e, nF, ap, h.len, fun b w q => ?_, h.sub0, fun b n z => h.new b n ?_, fun b w q z => ?_, fun b q => ?_, fun i s q => ?_, h.dis, fun a q => ?_, h.io2⟩
  · rw [upd_ne (ne_of_none q nF)]; exact h.sub _ _ q
  · show (upd Φ.H0 p o) b ≠ none
    rw [upd_ne (by rintro rfl; exact z n0)]; exact z
  · have y : b ≠ p := by rintro rfl; rw [n0] at q; cases q
    rw [upd_ne y]
    exact h.kept b w (by show (upd Φ.H0 p o) b = some w; rw [upd_ne y]; exact q) z
  · by_cases y : b = p
    · subst y; exact n0
    · rw [upd_ne y] at q
      have := h.dom b q
      have this : (upd Φ.H0 p o) b = none := this
      rw [upd_ne y] at this
      exact this
  · have w := h.sl i s q
    cases s with
    | no => trivial
    | val d => exact w
    | own d =>
      obtain ⟨a, w1, w2, w3, w4⟩ := w
      have y : a ≠ p := by rintro rfl; exact ap i d q w1
      have w3 : (upd Φ.H0 p o) a = none := w3
      rw [upd_ne y] at w3
      exact ⟨a, w1, w2, w3, w4.mono (Same.refl _) fun _ q => by rw [upd_ne y]; exact q⟩
    | io d => trivial
  · obtain ⟨w1, w2, d, w3, w4, w5⟩ := h.io1 a q
    have y : a ≠ p := by rintro rfl; exact ni q
    have w1 : (upd Φ.H0 p o) a ≠ none := w1
    rw [upd_ne y] at w1
    exact ⟨w1, w2, d, w3, w4, w5.mono (Same.refl _) fun _ q => by rw [upd_ne y]; exact q⟩
/-- the heap grows, and an own object (or the io object) changes -/
theorem R.growMu (h : R K Φ F σ H ρ) {F' H' : Hp} {j : Nat} {a : Addr} {d d' : D} (sF : Same F F') (sub : Same F' H') (new : ∀ b, F b = none → H b ≠ none → F' b = none) (kept : ∀ b o, H b = some o → b ≠ a → H' b = some o)
    (em : Mi.mu ρ j = some d) (ea : σ[j]? = some (some (.ref a))) (r : OwnR K F' H' a d') : R K Φ F' σ H' (Mi.putMu ρ j d') := by
  obtain ⟨a0, e0, nF, ow⟩ := h.mu em
  rw [ea] at e0
  cases e0
  obtain ⟨u, eu⟩ := ow.ex
  obtain ⟨o, eo⟩ := r.ex
  have nF' : F' a = none := new a nF (by rw [eu]; exact fun z => by cases z)
  have h2 : R K Φ F' σ (upd H' a u) ρ := by
    refine h.grow sF (fun b w q => ?_) new fun b w q => ?_
    · rw [upd_ne (ne_of_none q nF')]; exact sub _ _ q
    · by_cases y : b = a
      · subst y; rw [upd_same]; rw [eu] at q; exact q
      · rw [upd_ne y]; exact kept b w q y
  have e2 : upd (upd H' a u) a o = H' := by
    rw [upd_upd]
    funext b
    by_cases y : b = a
    · subst y; rw [upd_same, eo]
    · rw [upd_ne y]
  have := h2.putMu (o := o) (d' := d') em ea (by rw [e2]; exact r)
  rw [e2] at this
  exact this
end
/-! ### statements -/
inductive Out where
  | nx (ρ : Env)
  | rt (d : D) (ρ : Env)
  | bk (ρ : Env)
  | ct (ρ : Env)
  | exc (c : Str) (d : D) (ρ : Env)
  | stuck
abbrev MS := Env → Out
def Res.out {α : Type} : Res α → (α → Out) → Out
  | .ok a, f => f a
  | .exc c d ρ, _ => .exc c d ρ
  | .stuck, _ => .stuck
section
variable (K : PySem.W.Frag) (Φ : Fm) (F : Hp) (De : Ends) (W : WXm)
def GoodS : Out → Prop
  | .nx ρ => ∀ σ' F' H', R K Φ F' σ' H' ρ → Same F F' → De.nx σ' H'
  | .rt d ρ => ∀ σ' v F' H', R K Φ F' σ' H' ρ → Same F F' → Rp K F' v d → De.rt v H'
  | .bk ρ => ∀ σ' F' H', R K Φ F' σ' H' ρ → Same F F' → De.bk σ' H'
  | .ct ρ => ∀ σ' F' H', R K Φ F' σ' H' ρ → Same F F' → De.ct σ' H'
  | .exc c d ρ => up F W c d ρ
  | .stuck => False
end
section
variable {K : PySem.W.Frag} {mg : Str → Option Value} {E : L2.St → XK} {ta tb tc te : TE} {t u : TT} {tr : TA} {ma mb mc m : ME} {mt mu' : MT} {ms : List ME} {s1 s2 : TS} {m1 m2 : MS}
theorem GoodS.weak {Φ : Fm} {F F' : Hp} {De : Ends} {W : WXm} {o : Out} (s : Same F F') (h : GoodS K Φ F De W o) : GoodS K Φ F' De W o := by
  cases o with
  | nx ρ => exact fun σ' F2 H' r q => h σ' F2 H' r (s.trans q)
  | rt d ρ => exact fun σ' v F2 H' r q => h σ' v F2 H' r (s.trans q)
  | bk ρ => exact fun σ' F2 H' r q => h σ' F2 H' r (s.trans q)
  | ct ρ => exact fun σ' F2 H' r q => h σ' F2 H' r (s.trans q)
  | exc c d ρ => exact fun F2 q => h F2 (s.trans q)
  | stuck => exact h
theorem GoodS.out {α : Type} {Φ : Fm} {F : Hp} {De : Ends} {W : WXm} {r : Res α} {f : α → Out} (h : GoodS K Φ F De W (r.out f)) : Good r (fun a => GoodS K Φ F De W (f a)) (up F W) := by
  cases r <;> exact h
def ShS (K : PySem.W.Frag) (mg : Str → Option Value) (E : L2.St → XK) (t : TS) (m : MS) : Prop := ∀ (Φ : Fm) (F : Hp) (σ : L2.St) (H : Hp) (ρ : Env) (De : Ends) (W : WXm), R K Φ F σ H ρ → XW K mg Φ E W → GoodS K Φ F De W (m ρ) → t De σ H
def mNext : MS := .nx
theorem shs_next : ShS K mg E tNext mNext := fun Φ F σ H ρ De W r x g => g σ F H r (Same.refl _)
def mSeq (a b : MS) : MS := fun ρ => match a ρ with
  | .nx ρ' => b ρ'
  | o => o
theorem shs_seq (h1 : ShS K mg E s1 m1) (h2 : ShS K mg E s2 m2) : ShS K mg E (tSeq s1 s2) (mSeq m1 m2) := by
  intro Φ F σ H ρ De W r x g
  refine h1 Φ F σ H ρ { De with nx := s2 De } W r x ?_
  unfold mSeq at g
  cases e : m1 ρ with
  | nx ρ' =>
    rw [e] at g
    exact fun σ' F' H' r' s => h2 Φ F' σ' H' ρ' De W r' x (GoodS.weak s g)
  | _ => rw [e] at g; exact g
def mDrop (m : ME) : MS := fun ρ => (m ρ).out fun p => .nx p.2
theorem shs_drop (h : ShE K mg E te m) : ShS K mg E (tDrop te) (mDrop m) := by
  intro Φ F σ H ρ De W r x g
  refine h Φ F σ H ρ _ W r x ((GoodS.out (r := m ρ) g).mono (fun p gp v F1 H1 r1 s1 rv => gp σ F1 H1 r1 s1) fun _ _ _ w => w)
def mRet (m : ME) : MS := fun ρ => (m ρ).out fun p => .rt p.1 p.2
theorem shs_ret (h : ShE K mg E te m) : ShS K mg E (tRet te) (mRet m) := by
  intro Φ F σ H ρ De W r x g
  refine h Φ F σ H ρ _ W r x ((GoodS.out (r := m ρ) g).mono (fun p gp v F1 H1 r1 s1 rv => gp σ v F1 H1 r1 s1 rv) fun _ _ _ w => w)
def mRetN : MS := fun ρ => .rt .none ρ
theorem shs_retN : ShS K mg E tRetN mRetN := fun Φ F σ H ρ De W r x g => g σ .non F H r (Same.refl _) .non
def mBrk : MS := .bk
theorem shs_brk : ShS K mg E tBreak mBrk := fun Φ F σ H ρ De W r x g => g σ F H r (Same.refl _)
def mCnt : MS := .ct
theorem shs_cnt : ShS K mg E tCont mCnt := fun Φ F σ H ρ De W r x g => g σ F H r (Same.refl _)
def mIfS (c : MT) (a b : MS) : MS := fun ρ => (c ρ).out fun p => if p.1 = true then a p.2 else b p.2
theorem shs_if (h0 : ShT K mg E t mt) (h1 : ShS K mg E s1 m1) (h2 : ShS K mg E s2 m2) : ShS K mg E (tIfS t s1 s2) (mIfS mt m1 m2) := by
  intro Φ F σ H ρ De W r x g
  refine h0 Φ F σ H ρ _ W r x ((GoodS.out (r := mt ρ) g).mono (fun p gp F1 H1 r1 s1 => ?_) fun _ _ _ w => w)
  by_cases c : p.1 = true
  · rw [if_pos c] at gp ⊢
    exact h1 Φ F1 σ H1 p.2 De W r1 x (gp.weak s1)
  · rw [if_neg c] at gp ⊢
    exact h2 Φ F1 σ H1 p.2 De W r1 x (gp.weak s1)
/-! targets -/
abbrev MG := D → Env → Option Env
abbrev MGs := List D → Env → Option Env
def Tch (ts : List Nat) (σ σ' : L2.St) : Prop := σ'.length = σ.length ∧ ∀ i, i ∉ ts → σ'[i]? = σ[i]?
def ShG (K : PySem.W.Frag) (g : TG) (tg : MG) (ts : List Nat) : Prop := ∀ (Φ : Fm) (F : Hp) (σ : L2.St) (H : Hp) (ρ ρ' : Env) (v : V) (d : D) (N : L2.St → Hp → Prop), R K Φ F σ H ρ → Rp K F v d → tg d ρ = some ρ' → (∀ σ', R K Φ F σ' H ρ' → Tch ts σ σ' → N σ' H) → g v σ H N
def ShGs (K : PySem.W.Frag) (g : TGs) (tg : MGs) (ts : List Nat) : Prop := ∀ (Φ : Fm) (F : Hp) (σ : L2.St) (H : Hp) (ρ ρ' : Env) (vs : List V) (ds : List D) (N : L2.St → Hp → Prop), R K Φ F σ H ρ → RpA K F vs ds → tg ds ρ = some ρ' → (∀ σ', R K Φ F σ' H ρ' → Tch ts σ σ' → N σ' H) → g vs σ H N
def gN (i : Nat) : MG := fun d ρ => if notIo ρ i = true then some (ρ.set i (.val d)) else none
theorem shg_name (i : Nat) : ShG K (gName i) (gN i) [i] := by
  intro Φ F σ H ρ ρ' v d N r rv e q
  unfold gN at e
  split at e
  · cases e; exact q _ (r.set (by assumption) rv) ⟨List.length_set, fun j hj => List.getElem?_set_ne (fun z => hj (by rw [z]; exact List.mem_cons_self ..))⟩
  · cases e
def gNils : MGs := fun ds ρ => match ds with
  | [] => some ρ
  | _ => none
theorem shgs_nil : ShGs K gNil gNils [] := by
  intro Φ F σ H ρ ρ' vs ds N r rv e q
  cases rv with
  | nil => cases e; exact ⟨rfl, q σ r ⟨rfl, fun _ _ => rfl⟩⟩
  | cons _ _ => cases e
def gConss (g : MG) (gs : MGs) : MGs := fun ds ρ => match ds with
  | d :: ds => (g d ρ).bind (gs ds)
  | [] => none
theorem shgs_cons {g : TG} {gs : TGs} {tg : MG} {tgs : MGs} {ts us : List Nat} (h : ShG K g tg ts) (hs : ShGs K gs tgs us) : ShGs K (gCons g gs) (gConss tg tgs) (ts ++ us) := by
  intro Φ F σ H ρ ρ' vs ds N r rv e q
  cases rv with
  | nil => cases e
  | cons h1 h2 =>
    rename_i d ds
    have e : (tg d ρ).bind (tgs ds) = some ρ' := e
    cases z : tg d ρ with
    | none => rw [z] at e; cases e
    | some ρ1 =>
      rw [z] at e
      exact ⟨_, _, rfl, h Φ F σ H ρ ρ1 _ d _ r h1 z fun σ' r' t' => hs Φ F σ' H ρ1 ρ' _ ds N r' h2 e fun σ2 r2 t2 => q σ2 r2 ⟨t2.1.trans t'.1, fun i hi => by
        rw [t2.2 i fun w => hi (List.mem_append_right _ w), t'.2 i fun w => hi (List.mem_append_left _ w)]⟩⟩
def gT (n : Nat) (gs : MGs) : MG := fun d ρ => match d with
  | .tuple ds => if ds.length = n then gs ds ρ else none
  | _ => none
theorem shg_tup {n : Nat} {gs : TGs} {tgs : MGs} {ts : List Nat} (hs : ShGs K gs tgs ts) : ShG K (gTup K n gs) (gT n tgs) ts := by
  intro Φ F σ H ρ ρ' v d N r rv e q
  cases rv <;> try (cases e; done)
  rename_i a xs ds h1 h2
  have e : (if ds.length = n then tgs ds ρ else none) = some ρ' := e
  split at e
  · exact ⟨a, xs, rfl, r.sub.seqT h1, by rw [h2.length]; assumption, hs Φ F σ H ρ ρ' _ ds N r h2 e q⟩
  · cases e
theorem wipe_eq {σ σ' : L2.St} : ∀ {vs ts : List Nat}, (∀ i ∈ ts, i ∈ vs) → Tch ts σ σ' → L2.wipe σ' vs = L2.wipe σ vs := by
  intro vs ts sub t
  have key : ∀ (ws : List Nat), (∀ i, i ∉ ws → σ'[i]? = σ[i]?) → L2.wipe σ' ws = L2.wipe σ ws := by
    intro ws hw
    apply List.ext_getElem?
    intro i
    by_cases hi : i ∈ ws
    · have one : ∀ (s : L2.St) (us : List Nat), i ∈ us → (L2.wipe s us)[i]? = if i < s.length then some none else none := by
        intro s us
        induction us with
        | nil => intro z; cases z
        | cons u us ih =>
          intro z
          unfold L2.wipe
          by_cases y : u = i
          · subst y
            by_cases l : u < s.length
            · rw [List.getElem?_set_self (by rw [L2.wipe_length]; exact l), if_pos l]
            · rw [List.getElem?_eq_none (by rw [List.length_set, L2.wipe_length]; omega), if_neg l]
          · rw [List.getElem?_set_ne y]
            rcases List.mem_cons.mp z with z | z
            · exact absurd z.symm y
            · exact ih z
      rw [one _ _ hi, one _ _ hi, t.1]
    · rw [wipe_out hi, wipe_out hi, hw i hi]
  exact key vs fun i hi => t.2 i fun z => hi (sub i z)
theorem wipe_wipe {σ : L2.St} {vs : List Nat} : L2.wipe (L2.wipe σ vs) vs = L2.wipe σ vs :=
  wipe_eq (ts := vs) (fun _ h => h) ⟨L2.wipe_length _ _, fun i hi => wipe_out hi⟩
def oOut (o : Option Env) (f : Env → Out) : Out := match o with
  | some ρ => f ρ
  | none => .stuck
def mAsg (tg : MG) (m : ME) : MS := fun ρ => (m ρ).out fun p => oOut (tg p.1 p.2) .nx
theorem shs_asg {g : TG} {tg : MG} {ts : List Nat} (hg : ShG K g tg ts) (h : ShE K mg E te m) : ShS K mg E (tAsg te g) (mAsg tg m) := by
  intro Φ F σ H ρ De W r x gg
  refine h Φ F σ H ρ _ W r x ((GoodS.out (r := m ρ) gg).mono (fun p gp v F1 H1 r1 s1 rv => ?_) fun _ _ _ w => w)
  cases e : tg p.1 p.2 with
  | none => rw [e] at gp; exact gp.elim
  | some ρ' => rw [e] at gp; exact hg Φ F1 σ H1 p.2 ρ' v p.1 _ r1 rv e fun σ' r' _ => gp σ' F1 H1 r' s1
abbrev mSet (i : Nat) (m : ME) : MS := mAsg (gN i) m
/-- x = a new object that x keeps for its own -/
def mSetO (i : Nat) (m : ME) : MS := fun ρ => (m ρ).out fun p => if notIo p.2 i = true then .nx (p.2.set i (.own p.1)) else .stuck
theorem shs_setO {i : Nat} (h : ShF K mg E te m) : ShS K mg E (tAsg te (gName i)) (mSetO i m) := by
  intro Φ F σ H ρ De W r x gg
  refine h Φ F σ H ρ _ W r x ((GoodS.out (r := m ρ) gg).mono (fun p gp a F1 H1 r1 s1 nF n0 ap ow => ?_) fun _ _ _ w => w)
  split at gp
  · exact gp _ F1 H1 (r1.setO (by assumption) nF n0 ap ow) s1
  · exact gp.elim
/-! augmented -/
def mAug (i : Nat) (f : D → D → Option D) (m : ME) : MS := fun ρ => match ρ[i]? with
  | some (.val d0) => (m ρ).out fun p => match f d0 p.1 with
    | some d => if notIo p.2 i = true then .nx (p.2.set i (.val d)) else .stuck
    | none => .stuck
  | _ => .stuck
theorem shs_aug {i : Nat} {r : R2} {f : D → D → Option D} (ho : OpS K r f) (h : ShE K mg E te m) : ShS K mg E (tAug i te r) (mAug i f m) := by
  intro Φ F σ H ρ De W rr x gg
  unfold mAug at gg
  cases e : ρ[i]? with
  | none => rw [e] at gg; exact gg.elim
  | some s =>
    rw [e] at gg
    cases s with
    | no => exact gg.elim
    | own d => exact gg.elim
    | io d => exact gg.elim
    | val d0 =>
      obtain ⟨v0, e1, e2⟩ := rr.sl i _ e
      refine ⟨v0, e1, h Φ F σ H ρ _ W rr x ((GoodS.out (r := m ρ) gg).mono (fun p gp v F1 H1 r1 s1 rv => ?_) fun _ _ _ w => w)⟩
      cases z : f d0 p.1 with
      | none => simp only [z] at gp; exact gp.elim
      | some d =>
        simp only [z] at gp
        split at gp
        · exact ho F1 H1 v0 v d0 p.1 d _ r1.sub (e2.mono s1) rv z fun w rw' => gp _ F1 H1 (r1.set (by assumption) rw') s1
        · exact gp.elim
theorem ip_addS : OpS K (ipI fun i j => i + j) fAdd := by
  intro F H x y dx dy d Q _ rx ry e q
  unfold fAdd f2 at e
  split at e
  · cases rx; cases ry; cases e; exact ⟨_, _, rfl, rfl, q _ (.int _)⟩
  · cases e
/-! loops -/
def Yl (F H H' : Hp) (F2 : Hp) : Prop := (F2 = F ∧ H' = H) ∨ ∃ p o, H p = none ∧ F2 = upd F p o ∧ H' = upd H p o
def Walks (K : PySem.W.Frag) (J : It) (F : Hp) (ds : List D) : Prop := ∀ (F1 H : Hp), Same F F1 → Same F1 H → ∀ i : Nat,
  (∀ d, ds[i]? = some d → J.go i H ∧ ∀ x H', J.yld i H x H' → ∃ F2, Yl F1 H H' F2 ∧ Rp K F2 x d) ∧ (ds[i]? = none → J.stop i H)
def ShI (K : PySem.W.Frag) (mg : Str → Option Value) (E : L2.St → XK) (wi : TI) (it : MA) : Prop := ∀ (Φ : Fm) (F : Hp) (σ : L2.St) (H : Hp) (ρ : Env) (Rr : It → Hp → Prop) (W : WXm), R K Φ F σ H ρ → XW K mg Φ E W →
  Good (it ρ) (fun p => ∀ J F' H', R K Φ F' σ H' p.2 → Same F F' → Walks K J F' p.1 → Rr J H') (up F W) → wi σ H Rr
theorem R.yl {Φ : Fm} {F H H' F2 : Hp} {σ : L2.St} {ρ : Env} (r : R K Φ F σ H ρ) (y : Yl F H H' F2) : R K Φ F2 σ H' ρ ∧ Same F F2 := by
  rcases y with ⟨rfl, rfl⟩ | ⟨p, o, np, rfl, rfl⟩
  · exact ⟨r, Same.refl _⟩
  · exact r.alloc np
def mForL (tg : MG) (b : MS) : List D → Env → Out
  | [], ρ => .nx ρ
  | x :: xs, ρ => oOut (tg x ρ) fun ρ1 => match b ρ1 with
    | .nx ρ2 => mForL tg b xs ρ2
    | .ct ρ2 => mForL tg b xs ρ2
    | .bk ρ2 => .nx ρ2
    | o => o
def mFor (it : MA) (tg : MG) (b : MS) : MS := fun ρ => (it ρ).out fun p => mForL tg b p.1 p.2
theorem drop_get {α : Type} {xs : List α} {i : Nat} {x : α} (h : xs[i]? = some x) : xs.drop i = x :: xs.drop (i + 1) := by
  obtain ⟨h1, h2⟩ := List.getElem?_eq_some_iff.mp h
  rw [List.drop_eq_getElem_cons h1, h2]
theorem shs_for {wi : TI} {g : TG} {it : MA} {tg : MG} {ts : List Nat} (hi : ShI K mg E wi it) (hg : ShG K g tg ts) (hb : ShS K mg E s1 m1) : ShS K mg E (tFor wi g s1) (mFor it tg m1) := by
  intro Φ F σ H ρ De W r x gg
  refine hi Φ F σ H ρ _ W r x ((GoodS.out (r := it ρ) gg).mono (fun p gp J F1 H1 r1 s1 wk => ?_) fun _ _ _ w => w)
  refine ⟨fun i n σ H => ∃ F' ρ', R K Φ F' σ H ρ' ∧ Same F1 F' ∧ n = p.1.length - i ∧ GoodS K Φ F' De W (mForL tg m1 (p.1.drop i) ρ'), ⟨_, F1, p.2, r1, Same.refl _, rfl, gp.weak s1⟩, ?_⟩
  rintro i n σ H ⟨F', ρ', r', s', hn, g'⟩
  obtain ⟨w1, w2⟩ := wk F' H s' r'.sub i
  cases e : p.1[i]? with
  | none =>
    refine .inl ⟨w2 e, ?_⟩
    rw [List.drop_eq_nil_of_le (List.getElem?_eq_none_iff.mp e)] at g'
    exact g' σ F' H r' (Same.refl _)
  | some d =>
    obtain ⟨go, yld⟩ := w1 d e
    have hlt : i < p.1.length := (List.getElem?_eq_some_iff.mp e).1
    rw [drop_get e] at g'
    unfold mForL at g'
    cases z : tg d ρ' with
    | none => rw [z] at g'; exact g'.elim
    | some ρ2 =>
      rw [z] at g'
      refine .inr ⟨go, fun σ' H' => ∃ F2 ρ3, R K Φ F2 σ' H' ρ3 ∧ Same F1 F2 ∧ GoodS K Φ F2 De W (mForL tg m1 (p.1.drop (i + 1)) ρ3), fun σ' H' ⟨F2, ρ3, q1, q2, q3⟩ => ⟨_, by subst hn; omega, F2, ρ3, q1, q2, rfl, q3⟩, fun v H' y => ?_⟩
      obtain ⟨F2, yl, rv⟩ := yld v H' y
      obtain ⟨r2, s2⟩ := r'.yl yl
      refine hg Φ F2 σ H' ρ' ρ2 v d _ r2 rv z fun σ' r3 _ => ?_
      have g2 : GoodS K Φ F2 De W (match m1 ρ2 with | .nx ρ2 => mForL tg m1 (p.1.drop (i + 1)) ρ2 | .ct ρ2 => mForL tg m1 (p.1.drop (i + 1)) ρ2 | .bk ρ2 => .nx ρ2 | o => o) := GoodS.weak s2 g'
      refine hb Φ F2 σ' H' ρ2 _ W r3 x ?_
      cases eb : m1 ρ2 with
      | nx ρ4 => rw [eb] at g2; exact fun σ4 F4 H4 r4 s4 => ⟨F4, ρ4, r4, (s'.trans s2).trans s4, g2.weak s4⟩
      | ct ρ4 => rw [eb] at g2; exact fun σ4 F4 H4 r4 s4 => ⟨F4, ρ4, r4, (s'.trans s2).trans s4, g2.weak s4⟩
      | bk ρ4 => rw [eb] at g2; exact fun σ4 F4 H4 r4 s4 => g2 σ4 F4 H4 r4 s4
      | rt d ρ4 => rw [eb] at g2; exact g2
      | exc c d ρ4 => rw [eb] at g2; exact g2
      | stuck => rw [eb] at g2; exact g2
/-- while, at most n turns -/
def mWhile (c : MT) (b : MS) : Nat → MS
  | 0 => fun _ => .stuck
  | n + 1 => fun ρ => (c ρ).out fun p => if p.1 = true then (match b p.2 with
    | .nx ρ2 => mWhile c b n ρ2
    | .ct ρ2 => mWhile c b n ρ2
    | .bk ρ2 => .nx ρ2
    | o => o) else .nx p.2
theorem shs_while (n : Env → Nat) (hc : ShT K mg E t mt) (hb : ShS K mg E s1 m1) : ShS K mg E (tWhile t s1) (fun ρ => mWhile mt m1 (n ρ) ρ) := by
  intro Φ F σ H ρ De W r x gg
  refine ⟨fun k σ H => ∃ F' ρ', R K Φ F' σ H ρ' ∧ GoodS K Φ F' De W (mWhile mt m1 k ρ'), ⟨n ρ, F, ρ, r, gg⟩, ?_⟩
  rintro k σ H ⟨F', ρ', r', g'⟩
  cases k with
  | zero => exact g'.elim
  | succ k =>
    refine hc Φ F' σ H ρ' _ W r' x ((GoodS.out (r := mt ρ') g').mono (fun p gp F1 H1 r1 s1 => ?_) fun _ _ _ w => w)
    by_cases c : p.1 = true
    · rw [if_pos c] at gp ⊢
      refine ⟨fun σ' H' => ∃ F2 ρ3, R K Φ F2 σ' H' ρ3 ∧ GoodS K Φ F2 De W (mWhile mt m1 k ρ3), fun σ' H' ⟨F2, ρ3, q1, q2⟩ => ⟨k, by omega, F2, ρ3, q1, q2⟩, ?_⟩
      have gp := gp.weak s1
      refine hb Φ F1 σ H1 p.2 _ W r1 x ?_
      cases eb : m1 p.2 with
      | nx ρ4 => rw [eb] at gp; exact fun σ4 F4 H4 r4 s4 => ⟨F4, ρ4, r4, gp.weak s4⟩
      | ct ρ4 => rw [eb] at gp; exact fun σ4 F4 H4 r4 s4 => ⟨F4, ρ4, r4, gp.weak s4⟩
      | bk ρ4 => rw [eb] at gp; exact fun σ4 F4 H4 r4 s4 => gp σ4 F4 H4 r4 s4
      | rt d ρ4 => rw [eb] at gp; exact gp
      | exc c d ρ4 => rw [eb] at gp; exact gp
      | stuck => rw [eb] at gp; exact gp
    · rw [if_neg c] at gp ⊢
      exact gp σ F1 H1 r1 s1
/-! what is walked -/
def itL (m : ME) : MA := fun ρ => (m ρ).bind fun p => match p.1 with
  | .list ds => .ok (ds, p.2)
  | .dict [(.none, .list ds)] => .ok (ds, p.2)
  | _ => .stuck
theorem walks_list {F : Hp} {a : Addr} {xs : List V} {ds : List D} (h1 : SqL K F a xs) (h2 : RpA K F xs ds) : Walks K (Itl K a) F ds := fun F2 H2 sa sb i => ⟨fun d e => by
  obtain ⟨y, e1, e2⟩ := h2.get' e
  refine ⟨⟨xs, y, sb.seq (sa.seq h1), e1⟩, fun z H' q => ⟨F2, .inl ⟨rfl, q.1⟩, ?_⟩⟩
  have e3 := q.2 xs (sb.seq (sa.seq h1))
  rw [e1] at e3
  cases e3
  exact e2.mono sa, fun e => ⟨xs, sb.seq (sa.seq h1), by rw [h2.length]; exact List.getElem?_eq_none_iff.mp e⟩⟩
theorem shi_list (h : ShE K mg E te m) : ShI K mg E (iList K te) (itL m) := by
  intro Φ F σ H ρ Rr W r x g
  have g1 := Good.bind (r := m ρ) g
  refine h Φ F σ H ρ _ W r x (g1.mono (fun p gp v F1 H1 r1 s1 rv => ?_) fun _ _ _ w => w)
  obtain ⟨d, ρ'⟩ := p
  cases rv <;> try (exact False.elim gp)
  · rename_i a xs ds h1 h2
    exact ⟨a, rfl, ⟨xs, SqL.of (r1.sub _ _ h1)⟩, gp _ F1 H1 r1 s1 (walks_list (SqL.of h1) h2)⟩
  · rename_i a xs ds h1 h2
    exact ⟨a, rfl, ⟨xs, r1.sub.seq h1⟩, gp _ F1 H1 r1 s1 (walks_list h1 h2)⟩
  · rename_i a xs ds h1 h2
    dsimp only at gp
    cases h2 with
    | nil => exact False.elim gp
    | @cons k v vs d ds q1 q2 => cases k <;> exact False.elim gp
def itT (m : ME) : MA := fun ρ => (m ρ).bind fun p => match p.1 with
  | .tuple ds => .ok (ds, p.2)
  | _ => .stuck
theorem shi_tup (h : ShE K mg E te m) : ShI K mg E (iTup K te) (itT m) := by
  intro Φ F σ H ρ Rr W r x g
  have g1 := Good.bind (r := m ρ) g
  refine h Φ F σ H ρ _ W r x (g1.mono (fun p gp v F1 H1 r1 s1 rv => ?_) fun _ _ _ w => w)
  obtain ⟨d, ρ'⟩ := p
  cases rv <;> try (exact False.elim gp)
  rename_i a xs ds h1 h2
  refine ⟨a, rfl, ⟨xs, r1.sub.seqT h1⟩, gp _ F1 H1 r1 s1 fun F2 H2 sa sb i => ⟨fun d e => ?_, fun e => ⟨xs, sb.seqT (sa.seqT h1), by rw [h2.length]; exact List.getElem?_eq_none_iff.mp e⟩⟩⟩
  obtain ⟨y, e1, e2⟩ := h2.get' e
  refine ⟨⟨xs, y, sb.seqT (sa.seqT h1), e1⟩, fun z H' q => ⟨F2, .inl ⟨rfl, q.1⟩, ?_⟩⟩
  have e3 := q.2 xs (sb.seqT (sa.seqT h1))
  rw [e1] at e3
  cases e3
  exact e2.mono sa
def rngD (lo : Int) (n : Nat) : List D := (List.range n).map fun (i : Nat) => PyData.int (lo + (i : Int))
theorem rngD_get {lo : Int} {n i : Nat} {d : D} (e : (rngD lo n)[i]? = some d) : i < n ∧ d = .int (lo + i) := by
  unfold rngD at e
  rw [List.getElem?_map] at e
  by_cases h : i < n
  · rw [List.getElem?_range h] at e
    cases e
    exact ⟨h, rfl⟩
  · rw [List.getElem?_eq_none (by rw [List.length_range]; omega)] at e
    cases e
theorem walks_rng (lo : Int) (n : Nat) (F : Hp) : Walks K (Itr lo n) F (rngD lo n) := fun F1 H _ _ i => by
  refine ⟨fun d e => ?_, fun e => ?_⟩
  · obtain ⟨h, rfl⟩ := rngD_get e
    exact ⟨h, fun x H' q => ⟨F1, .inl ⟨rfl, q.1⟩, by rw [q.2]; exact .int _⟩⟩
  · have := List.getElem?_eq_none_iff.mp e
    unfold rngD at this
    rw [List.length_map, List.length_range] at this
    exact this
def rOk (i : Int) : Bool := decide (-4611686018427387904 ≤ i) && decide (i < 4611686018427387904)
def itR1 (ms : List ME) : MA := fun ρ => (mA ms ρ).bind fun p => match p.1 with
  | [.int n] => if rOk n = true then .ok (rngD 0 n.toNat, p.2) else .stuck
  | _ => .stuck
theorem rOk_ok {i : Int} (h : rOk i = true) : -(2 ^ 62) ≤ i ∧ i < 2 ^ 62 := by
  unfold rOk at h
  simp only [Bool.and_eq_true, decide_eq_true_eq] at h
  omega
theorem shi_rng1 (h : ShA K mg E tr ms) : ShI K mg E (iRng1 tr) (itR1 ms) := by
  intro Φ F σ H ρ Rr W r x g
  have g1 := Good.bind (r := mA ms ρ) g
  refine h Φ F σ H ρ _ W r x (g1.mono (fun p gp vs F1 H1 r1 s1 rv el => ?_) fun _ _ _ w => w)
  obtain ⟨ds, ρ'⟩ := p
  dsimp only at gp rv r1
  split at gp
  · rename_i n
    obtain ⟨v, rfl, hv⟩ := one_rp rv
    cases hv
    split at gp
    · rename_i hn
      exact ⟨n, rfl, (rOk_ok hn).1, (rOk_ok hn).2, gp _ F1 H1 r1 s1 (walks_rng 0 _ _)⟩
    · exact gp.elim
  · exact gp.elim
def itR2 (ms : List ME) : MA := fun ρ => (mA ms ρ).bind fun p => match p.1 with
  | [.int i, .int n] => if (rOk i && rOk n) = true then .ok (rngD i (n - i).toNat, p.2) else .stuck
  | _ => .stuck
theorem shi_rng2 (h : ShA K mg E tr ms) : ShI K mg E (iRng2 tr) (itR2 ms) := by
  intro Φ F σ H ρ Rr W r x g
  have g1 := Good.bind (r := mA ms ρ) g
  refine h Φ F σ H ρ _ W r x (g1.mono (fun p gp vs F1 H1 r1 s1 rv el => ?_) fun _ _ _ w => w)
  obtain ⟨ds, ρ'⟩ := p
  dsimp only at gp rv r1
  split at gp
  · rename_i i n
    obtain ⟨v, w, rfl, hv, hw⟩ := two_rp rv
    cases hv
    cases hw
    split at gp
    · rename_i hn
      rw [Bool.and_eq_true] at hn
      exact ⟨i, n, rfl, ⟨(rOk_ok hn.1).1, (rOk_ok hn.1).2, (rOk_ok hn.2).1, (rOk_ok hn.2).2⟩, gp _ F1 H1 r1 s1 (walks_rng i _ _)⟩
    · exact gp.elim
  · exact gp.elim
def zipD : List D → List D → List D
  | x :: xs, y :: ys => .tuple [x, y] :: zipD xs ys
  | _, _ => []
theorem zipD_get : ∀ {xs ys : List D} {i : Nat} {d : D}, (zipD xs ys)[i]? = some d → ∃ x y, xs[i]? = some x ∧ ys[i]? = some y ∧ d = .tuple [x, y]
  | [], _, _, _, e => by simp [zipD] at e
  | _ :: _, [], _, _, e => by simp [zipD] at e
  | x :: xs, y :: ys, 0, d, e => by simp [zipD] at e; exact ⟨x, y, rfl, rfl, e.symm⟩
  | x :: xs, y :: ys, i + 1, d, e => by simpa using zipD_get (xs := xs) (ys := ys) (i := i) (by simpa [zipD] using e)
theorem zipD_none : ∀ {xs ys : List D} {i : Nat}, (zipD xs ys)[i]? = none → xs.length ≤ i ∨ ys.length ≤ i
  | [], _, _, e => .inl (by simp)
  | _ :: _, [], _, e => .inr (by simp)
  | x :: xs, y :: ys, 0, e => by simp [zipD] at e
  | x :: xs, y :: ys, i + 1, e => by
    have := zipD_none (xs := xs) (ys := ys) (i := i) (by simpa [zipD] using e)
    simp only [List.length_cons]
    omega
def itZ (ms : List ME) : MA := fun ρ => (mA ms ρ).bind fun p => match p.1 with
  | [.list xs, .list ys] => .ok (zipD xs ys, p.2)
  | [.tuple xs, .tuple ys] => .ok (zipD xs ys, p.2)
  | _ => .stuck
theorem walks_zip {F : Hp} {a b : Addr} {xs ys : List V} {ds es : List D} (h1 : SqL K F a xs) (h2 : SqL K F b ys) (r1 : RpA K F xs ds) (r2 : RpA K F ys es) : Walks K (Itz K a b) F (zipD ds es) := fun F1 H sa sb i => by
  refine ⟨fun d e => ?_, fun e => ?_⟩
  · obtain ⟨x, y, e1, e2, rfl⟩ := zipD_get e
    obtain ⟨v, q1, q2⟩ := r1.get' e1
    obtain ⟨w, q3, q4⟩ := r2.get' e2
    refine ⟨⟨xs, ys, v, w, sb.seq (sa.seq h1), sb.seq (sa.seq h2), q1, q3⟩, fun z H' q => ?_⟩
    obtain ⟨T, x', y', rfl, nT, rfl, g1, g2⟩ := q
    have e3 := g1 xs (sb.seq (sa.seq h1))
    have e4 := g2 ys (sb.seq (sa.seq h2))
    rw [q1] at e3
    rw [q3] at e4
    cases e3
    cases e4
    have sT : Same F1 (upd F1 T (.tup [v, w])) := sub_upd (sb.free nT)
    exact ⟨_, .inr ⟨T, _, nT, rfl, rfl⟩, .tup (SqT.of upd_same) (.cons (q2.mono (sa.trans sT)) (.cons (q4.mono (sa.trans sT)) .nil))⟩
  · refine ⟨xs, ys, sb.seq (sa.seq h1), sb.seq (sa.seq h2), ?_⟩
    rw [r1.length, r2.length]
    exact zipD_none e
theorem shi_zip (h : ShA K mg E tr ms) : ShI K mg E (iZip K tr) (fun ρ => (mA ms ρ).bind fun p => match p.1 with
    | [.list xs, .list ys] => .ok (zipD xs ys, p.2)
    | _ => .stuck) := by
  intro Φ F σ H ρ Rr W r x g
  have g1 := Good.bind (r := mA ms ρ) g
  refine h Φ F σ H ρ _ W r x (g1.mono (fun p gp vs F1 H1 r1 s1 rv el => ?_) fun _ _ _ w => w)
  obtain ⟨ds, ρ'⟩ := p
  dsimp only at gp rv r1
  split at gp
  · obtain ⟨v, w, rfl, hv, hw⟩ := two_rp rv
    cases hv with
    | lst h1 h2 =>
      cases hw with
      | lst h3 h4 => exact ⟨_, _, _, _, rfl, SqL.of (r1.sub _ _ h1), SqL.of (r1.sub _ _ h3), gp _ F1 H1 r1 s1 (walks_zip (SqL.of h1) (SqL.of h3) h2 h4)⟩
  · exact gp.elim
theorem walks_zipT {F : Hp} {a b : Addr} {xs ys : List V} {ds es : List D} (h1 : SqT K F a xs) (h2 : SqT K F b ys) (r1 : RpA K F xs ds) (r2 : RpA K F ys es) : Walks K (RZ.ItzT K a b) F (zipD ds es) := fun F1 H sa sb i => by
  refine ⟨fun d e => ?_, fun e => ?_⟩
  · obtain ⟨x, y, e1, e2, rfl⟩ := zipD_get e
    obtain ⟨v, q1, q2⟩ := r1.get' e1
    obtain ⟨w, q3, q4⟩ := r2.get' e2
    refine ⟨⟨xs, ys, v, w, sb.seqT (sa.seqT h1), sb.seqT (sa.seqT h2), q1, q3⟩, fun z H' q => ?_⟩
    obtain ⟨T, x', y', rfl, nT, rfl, g1, g2⟩ := q
    have e3 := g1 xs (sb.seqT (sa.seqT h1))
    have e4 := g2 ys (sb.seqT (sa.seqT h2))
    rw [q1] at e3
    rw [q3] at e4
    cases e3
    cases e4
    have sT : Same F1 (upd F1 T (.tup [v, w])) := sub_upd (sb.free nT)
    exact ⟨_, .inr ⟨T, _, nT, rfl, rfl⟩, .tup (SqT.of upd_same) (.cons (q2.mono (sa.trans sT)) (.cons (q4.mono (sa.trans sT)) .nil))⟩
  · refine ⟨xs, ys, sb.seqT (sa.seqT h1), sb.seqT (sa.seqT h2), ?_⟩
    rw [r1.length, r2.length]
    exact zipD_none e
theorem shi_zipA (h : ShA K mg E tr ms) : ShI K mg E (RZ.iZipA K tr) (itZ ms) := by
  intro Φ F σ H ρ Rr W r x g
  have g1 := Good.bind (r := mA ms ρ) g
  refine h Φ F σ H ρ _ W r x (g1.mono (fun p gp vs F1 H1 r1 s1 rv el => ?_) fun _ _ _ w => w)
  obtain ⟨ds, ρ'⟩ := p
  dsimp only at gp rv r1
  split at gp
  · obtain ⟨v, w, rfl, hv, hw⟩ := two_rp rv
    cases hv with
    | lst h1 h2 =>
      cases hw with
      | lst h3 h4 => exact ⟨_, _, _, _, rfl, .inl ⟨SqL.of (r1.sub _ _ h1), SqL.of (r1.sub _ _ h3), gp _ F1 H1 r1 s1 (walks_zip (SqL.of h1) (SqL.of h3) h2 h4)⟩⟩
  · obtain ⟨v, w, rfl, hv, hw⟩ := two_rp rv
    cases hv with
    | tup h1 h2 =>
      cases hw with
      | tup h3 h4 => exact ⟨_, _, _, _, rfl, .inr ⟨r1.sub.seqT h1, r1.sub.seqT h3, gp _ F1 H1 r1 s1 (walks_zipT h1 h3 h2 h4)⟩⟩
  · exact gp.elim
/-! comprehensions -/
def Res.nx {α : Type} : Res α → Res α
  | .ok a => .ok a
  | _ => .stuck
theorem Good.nx {α : Type} {r : Res α} {P : α → Prop} {W W' : Str → D → Env → Prop} (h : Good r.nx P W) : Good r P W' := by
  cases r <;> first | exact h | exact False.elim h
def mYes : MT := fun ρ => .ok (true, ρ)
def mLcL (tg : MG) (mt : MT) (me : ME) (vs : List Nat) : List D → List D → Env → Res (List D × Env)
  | [], acc, ρ => .ok (acc, ρ)
  | x :: xs, acc, ρ => match tg x ρ with
    | none => .stuck
    | some ρ1 => (mt ρ1).nx.bind fun p => if p.1 = true then (me p.2).nx.bind fun q => if acc.length < 16777216 ∧ vs.all (notIo q.2) = true then mLcL tg mt me vs xs (acc ++ [q.1]) (wipeE q.2 vs) else .stuck
      else if vs.all (notIo p.2) = true then mLcL tg mt me vs xs acc (wipeE p.2 vs) else .stuck
def mLc (it : MA) (tg : MG) (mt : MT) (me : ME) (vs : List Nat) : ME := fun ρ => (it ρ).bind fun p => if vs.all (notIo p.2) = true then (mLcL tg mt me vs p.1 [] (wipeE p.2 vs)).bind fun q => .ok (.list q.1, restE p.2 q.2 vs) else .stuck
theorem xw_false {Φ : Fm} : XW K mg Φ E fun _ _ _ _ => False := fun _ _ _ _ _ _ _ _ _ _ _ _ _ _ _ h => h.elim
theorem shf_lc {wi : TI} {g : TG} {it : MA} {tg : MG} {vs : List Nat} (hi : ShI K mg E wi it) {ts : List Nat} (hg : ShG K g tg ts) (sub : ∀ i ∈ ts, i ∈ vs) (ht : ShT K mg E t mt) (he : ShE K mg E te m) : ShF K mg E (tLc wi g t te vs) (mLc it tg mt m vs) := by
  intro Φ F σ H ρ Q W r x gg
  have g1 := Good.bind (r := it ρ) gg
  refine hi Φ F σ H ρ _ W r x (g1.mono (fun p gp J F1 H1 r1 s1 wk => ?_) fun _ _ _ w => w)
  intro D nD
  split at gp
  · rename_i ok
    have gp := gp.bind
    have n0 : Φ.H0 D = none := r1.dom D nD
    have nF1 : F1 D = none := r1.sub.free nD
    have n1 : Φ.F0 D = none := r1.sub0.free nF1
    have ni : Φ.io ≠ some D := fun z => absurd n0 (r1.io1 D z).1
    refine ⟨fun i n H => ∃ F' ρ' vacc acc, R K (prot Φ D (.lst vacc)) F' (L2.wipe σ vs) H ρ' ∧ Same F1 F' ∧ RpA K F' vacc acc ∧ n = p.1.length - i ∧ Good (mLcL tg mt m vs (p.1.drop i) acc ρ') (fun q => ∀ a F2 H2, R K Φ F2 σ H2 (restE p.2 q.2 vs) → Same F F2 → F2 a = none → Φ.H0 a = none →
        (∀ (j : Nat) d, (restE p.2 q.2 vs)[j]? = some (.own d) → σ[j]? ≠ some (some (.ref a))) → OwnR K F2 H2 a (.list q.1) → Q (.ref a) H2) (up F W), ?_, ?_⟩
    · obtain ⟨r2, nF, _, ap⟩ := (r1.wipe vs ok).allocO (o := .lst []) nD
      exact ⟨_, F1, _, [], [], r2.protect upd_same nF n0 ap, Same.refl _, .nil, rfl, gp⟩
    · rintro i n H' ⟨F', ρ', vacc, acc, r', s', ra, hn, g'⟩
      obtain ⟨eD, nF', ap, r''⟩ := r'.unprot (u := .lst vacc) n0 n1 ni
      have eH : upd H' D (.lst vacc) = H' := by
        funext b
        by_cases y : b = D
        · subst y; rw [upd_same, eD]
        · rw [upd_ne y]
      rw [eH] at r''
      obtain ⟨w1, w2⟩ := wk F' H' s' r'.sub i
      cases e : p.1[i]? with
      | none =>
        refine .inl ⟨w2 e, ?_⟩
        rw [List.drop_eq_nil_of_le (List.getElem?_eq_none_iff.mp e)] at g'
        have r3 := r1.rest r'' s' ok
        refine g' D F' H' r3 (s1.trans s') nF' n0 (fun j d q z => ?_) ⟨vacc, eD, ra⟩
        rcases restE_get p.2 vs q with ⟨_, y | ⟨_, y, _⟩⟩ | ⟨y1, y2⟩
        · cases y
        · cases y
        · exact ap j d y2 (by rw [wipe_out y1]; exact z)
      | some d =>
        obtain ⟨go, yld⟩ := w1 d e
        have hlt : i < p.1.length := (List.getElem?_eq_some_iff.mp e).1
        rw [drop_get e] at g'
        unfold mLcL at g'
        cases z : tg d ρ' with
        | none => rw [z] at g'; exact g'.elim
        | some ρ2 =>
          rw [z] at g'
          have g2 := Good.nx (W' := fun _ _ _ => False) (Good.bind (r := (mt ρ2).nx) g')
          refine .inr ⟨go, fun H3 => ∃ F' ρ' vacc acc, R K (prot Φ D (.lst vacc)) F' (L2.wipe σ vs) H3 ρ' ∧ Same F1 F' ∧ RpA K F' vacc acc ∧ Good (mLcL tg mt m vs (p.1.drop (i + 1)) acc ρ') (fun q => ∀ a F2 H2, R K Φ F2 σ H2 (restE p.2 q.2 vs) → Same F F2 → F2 a = none → Φ.H0 a = none →
            (∀ (j : Nat) d, (restE p.2 q.2 vs)[j]? = some (.own d) → σ[j]? ≠ some (some (.ref a))) → OwnR K F2 H2 a (.list q.1) → Q (.ref a) H2) (up F W), fun H3 ⟨F', ρ', va, ac, q1, q2, q3, q4⟩ => ⟨_, by subst hn; omega, F', ρ', va, ac, q1, q2, q3, rfl, q4⟩, fun v H3 y => ?_⟩
          obtain ⟨F2, yl, rv⟩ := yld v H3 y
          obtain ⟨r2, s2⟩ := r'.yl yl
          refine hg _ F2 _ H3 ρ' ρ2 v d _ r2 rv z fun σ2 r3 tch => ?_
          have ew : L2.wipe σ2 vs = L2.wipe σ vs := by rw [wipe_eq sub tch, wipe_wipe]
          refine ⟨ew, ht _ F2 σ2 H3 ρ2 _ (fun _ _ _ _ => False) r3 xw_false (g2.mono (fun q gq F4 H4 r4 s4 => ?_) fun _ _ _ w => w.elim)⟩
          by_cases c : q.1 = true
          · rw [if_pos c] at gq ⊢
            have g3 := Good.nx (W' := fun _ _ _ => False) (Good.bind (r := (m q.2).nx) gq)
            refine he _ F4 σ2 H4 q.2 _ (fun _ _ _ _ => False) r4 xw_false (g3.mono (fun w gw y F5 H5 r5 s5 ry => ?_) fun _ _ _ w => w.elim)
            split at gw
            · rename_i hz
              have r6 := r5.wipe vs hz.2
              rw [ew] at r6
              obtain ⟨eD5, nF5, ap5, r7⟩ := r6.unprot (u := .lst (vacc ++ [y])) n0 n1 ni
              refine ⟨vacc, eD5, by rw [ra.length, sizeLine_eq]; exact hz.1, F5, _, vacc ++ [y], acc ++ [w.1], r7.protect upd_same nF5 n0 ap5, ((s'.trans s2).trans s4).trans s5, (ra.mono ((s2.trans s4).trans s5)).append (.cons ry .nil), gw⟩
            · exact gw.elim
          · rw [if_neg c] at gq ⊢
            split at gq
            · rename_i hz
              have r6 := r4.wipe vs hz
              rw [ew] at r6
              exact ⟨F4, _, vacc, acc, r6, (s'.trans s2).trans s4, ra.mono (s2.trans s4), gq⟩
            · exact gq.elim
  · exact gp.elim
end
end Mi

set_option Elab.async false
set_option linter.all false
set_option maxRecDepth 100000
namespace Mi
open PySem PySem.Spec PyProof.Rows L2
section
variable {K : PySem.W.Frag} {mg : Str → Option Value} {E : L2.St → XK} {ta tb tc te td ty tv : TE} {t u : TT} {tr : TA} {ma mb mc m mk mv : ME} {mt mu' : MT} {ms : List ME} {s1 s2 : TS} {m1 m2 : MS}
theorem sht_yes : ShT K mg E tYes mYes := fun Φ F σ H ρ Q W r x g => g F H r (Same.refl _)
/-! own objects -/
/-- f of an own object that is only looked at -/
def mPeek (j : Nat) (m : ME) (f : D → D → Option D) : ME := fun ρ => match mu ρ j with
  | none => .stuck
  | some _ => (m ρ).bind fun p => match mu p.2 j with
    | none => .stuck
    | some d => ret (f d p.1) p.2
def PkSh (K : PySem.W.Frag) (r : R2) (f : D → D → Option D) : Prop := ∀ (F H : Hp) (a : Addr) (y : V) (d dy z : D) (Q : VK), Same F H → OwnR K F H a d → Rp K F y dy → f d dy = some z → (∀ v, Rp K F v z → Q v H) → r (.ref a) y H Q
theorem sh_peek {r : R2} {f : D → D → Option D} {j : Nat} (ho : PkSh K r f) (h : ShE K mg E te m) : ShE K mg E (tOp r (tVar j) te) (mPeek j m f) := by
  intro Φ F σ H ρ Q W rr x g
  unfold mPeek at g
  cases e : mu ρ j with
  | none => rw [e] at g; exact g.elim
  | some d0 =>
    rw [e] at g
    obtain ⟨a, ea, _, _⟩ := rr.mu e
    refine ⟨_, ea, h Φ F σ H ρ _ W rr x ((Good.bind (r := m ρ) g).mono (fun p gp v F1 H1 r1 s1 rv => ?_) fun _ _ _ w => w)⟩
    cases e1 : mu p.2 j with
    | none => simp only [e1] at gp; exact gp.elim
    | some d =>
      simp only [e1] at gp
      obtain ⟨a', ea', nF, ow⟩ := r1.mu e1
      rw [ea] at ea'
      cases ea'
      unfold ret at gp
      cases e2 : f d p.1 with
      | none => rw [e2] at gp; exact gp.elim
      | some z =>
        rw [e2] at gp
        exact ho F1 H1 a v d p.1 z Q r1.sub ow rv e2 fun w rw' => gp w F1 H1 r1 s1 rw'
theorem pk_ixL : PkSh K (rIxL K) fIxL := by
  intro F H a y d dy z Q s ow ry e q
  cases d <;> first | (cases e; done) | skip
  cases dy <;> first | (cases e; done) | skip
  obtain ⟨vs, h1, h2⟩ := ow
  cases ry
  obtain ⟨v, e1, e2⟩ := atI_rp h2 e
  exact ⟨_, _, _, v, rfl, rfl, SqL.of h1, e1, q _ e2⟩
/-! dicts -/
def keyD : D → Option Key
  | .int i => some (.inl i)
  | .str x => some (.inr x)
  | _ => none
def eqK : D → Key → Bool
  | .int i, .inl j => decide (i = j)
  | .str i, .inr j => decide (i = j)
  | _, _ => false
theorem eqK_kD (a b : Key) : eqK (kD a) b = decide (a = b) := by
  cases a <;> cases b <;> simp [eqK, kD]
theorem keyD_ok {F : Hp} {v : V} {d : D} {k : Key} (r : Rp K F v d) (e : keyD d = some k) : v = kV k ∧ d = kD k := by
  cases r <;> first | (cases e; exact ⟨rfl, rfl⟩) | cases e
def valD (kds : List (D × D)) (k : Key) : Option D := (kds.find? fun p => eqK p.1 k).map (·.2)
theorem valD_ok {F : Hp} {k : Key} : ∀ {kvs : List (Key × V)} {kds : List (D × D)}, RpK K F kvs kds → (valV kvs k = none ∧ valD kds k = none) ∨ ∃ v d, valV kvs k = some v ∧ valD kds k = some d ∧ Rp K F v d
  | _, _, .nil => .inl ⟨rfl, rfl⟩
  | _, _, .cons (k := k2) (v := v) (d := d) (vs := vs) (ds := ds) h r => by
    by_cases e : k2 = k
    · refine .inr ⟨v, d, valV_pos (p := (k2, v)) e, ?_, h⟩
      unfold valD
      rw [List.find?_cons]
      simp only [eqK_kD, decide_eq_true e]
      rfl
    · rw [valV_neg (p := (k2, v)) e]
      have : valD ((kD k2, d) :: ds) k = valD ds k := by
        unfold valD
        rw [List.find?_cons]
        simp only [eqK_kD, decide_eq_false e]
      rw [this]
      exact valD_ok r
def putD (kds : List (D × D)) (k : Key) (d : D) : List (D × D) :=
  if (kds.any fun p => eqK p.1 k) = true then kds.map (fun p => if eqK p.1 k = true then (p.1, d) else p) else kds ++ [(kD k, d)]
theorem any_ok {F : Hp} {k : Key} : ∀ {kvs : List (Key × V)} {kds : List (D × D)}, RpK K F kvs kds → (kvs.any fun kv => decide (kv.1 = k)) = kds.any fun p => eqK p.1 k
  | _, _, .nil => rfl
  | _, _, .cons h r => by rw [List.any_cons, List.any_cons, eqK_kD, any_ok r]
theorem RpK.map {F : Hp} {k : Key} {v : V} {d : D} (hv : Rp K F v d) : ∀ {kvs : List (Key × V)} {kds : List (D × D)}, RpK K F kvs kds → RpK K F (kvs.map fun kv => if kv.1 = k then (kv.1, v) else kv) (kds.map fun p => if eqK p.1 k = true then (p.1, d) else p)
  | _, _, .nil => .nil
  | _, _, .cons (k := k2) h r => by
    rw [List.map_cons, List.map_cons]
    by_cases e : k2 = k
    · rw [if_pos e, if_pos (by rw [eqK_kD]; exact decide_eq_true e)]
      exact .cons hv (RpK.map hv r)
    · rw [if_neg e, if_neg (by rw [eqK_kD]; simpa using e)]
      exact .cons h (RpK.map hv r)
theorem RpK.append {F : Hp} : ∀ {a b : List (Key × V)} {c d : List (D × D)}, RpK K F a c → RpK K F b d → RpK K F (a ++ b) (c ++ d)
  | _, _, _, _, .nil, q => q
  | _, _, _, _, .cons h r, q => .cons h (RpK.append r q)
theorem RpK.length {F : Hp} : ∀ {a : List (Key × V)} {c : List (D × D)}, RpK K F a c → a.length = c.length
  | _, _, .nil => rfl
  | _, _, .cons h r => by rw [List.length_cons, List.length_cons, RpK.length r]
theorem RpK.put {F : Hp} {k : Key} {v : V} {d : D} {kvs : List (Key × V)} {kds : List (D × D)} (r : RpK K F kvs kds) (hv : Rp K F v d) : RpK K F (putK kvs k v) (putD kds k d) := by
  unfold putK putD
  rw [any_ok r]
  split
  · exact RpK.map hv r
  · exact r.append (.cons hv .nil)
def fGetD : D → D → Option D
  | .dict kds, k => (keyD k).bind (valD kds)
  | _, _ => none
theorem fGetD_ok {F H : Hp} {a : Addr} {y : V} {kvs : List (Key × V)} {kds : List (D × D)} {dk z : D} (e : H a = some (.dK kvs)) (r : RpK K F kvs kds) (ry : Rp K F y dk) (h : fGetD (.dict kds) dk = some z) : ∃ v, DGet H a y (some v) ∧ Rp K F v z := by
  have h : (keyD dk).bind (valD kds) = some z := h
  cases ek : keyD dk with
  | none => rw [ek] at h; cases h
  | some k =>
    rw [ek] at h
    obtain ⟨rfl, _⟩ := keyD_ok ry ek
    rcases valD_ok (k := k) r with ⟨_, h2⟩ | ⟨v, d, h1, h2, h3⟩
    · have h : valD kds k = some z := h
      rw [h2] at h; cases h
    · have h : valD kds k = some z := h
      rw [h2] at h
      cases h
      exact ⟨v, by rw [← h1]; exact DGet.k e, h3⟩
/-- d[k] of a dict that is fixed -/
def mGet (md mk : ME) : ME := mOp fGetD md mk
theorem sh_get (hd : ShE K mg E td m) (hk : ShE K mg E ty mk) : ShE K mg E (tDGet td ty) (mGet m mk) := by
  refine (show ShE K mg E (tOp (fun x y H Q => ∃ a v, x = .ref a ∧ DGet H a y (some v) ∧ Q v H) td ty) (mGet m mk) from sh_op (OpS.sh fun F H x y dx dy d Q s rx ry e q => ?_) hd hk)
  cases rx <;> try (cases e; done)
  · rename_i a xs ds h1 h2
    have e : (keyD dy).bind (valD [(.none, .list ds)]) = some d := e
    cases ek : keyD dy with
    | none => rw [ek] at e; cases e
    | some k =>
      rw [ek] at e
      have e : valD [(.none, .list ds)] k = some d := e
      unfold valD at e
      cases k <;> simp [eqK] at e
  · rename_i a kvs ds h1 h2
    obtain ⟨v, g1, g2⟩ := fGetD_ok (s _ _ h1) h2 ry e
    exact ⟨a, v, rfl, g1, q v g2⟩
/-- d[k] of an own dict -/
def mGetO (j : Nat) (mk : ME) : ME := mPeek j mk fGetD
theorem sh_getO {j : Nat} (hk : ShE K mg E ty mk) : ShE K mg E (tDGet (tVar j) ty) (mGetO j mk) := by
  refine (show ShE K mg E (tOp (fun x y H Q => ∃ a v, x = .ref a ∧ DGet H a y (some v) ∧ Q v H) (tVar j) ty) (mGetO j mk) from sh_peek (fun F H a y d dy z Q s ow ry e q => ?_) hk)
  cases d <;> first | (cases e; done) | skip
  obtain ⟨kvs, h1, h2⟩ := ow
  obtain ⟨v, g1, g2⟩ := fGetD_ok h1 h2 ry e
  exact ⟨a, v, rfl, g1, q v g2⟩
/-- d[k] = v of an own dict -/
def mPutO (j : Nat) (mk mv : ME) : MS := fun ρ => (mv ρ).out fun p => match mu p.2 j with
  | none => .stuck
  | some _ => (mk p.2).out fun q => match mu q.2 j with
    | some (.dict kds) => match keyD q.1 with
      | some k => if kds.length < 16777216 then .nx (putMu q.2 j (.dict (putD kds k p.1))) else .stuck
      | none => .stuck
    | _ => .stuck
theorem shs_putO {j : Nat} (hk : ShE K mg E ty mk) (hv : ShE K mg E tv mv) : ShS K mg E (sDPut (tVar j) ty tv) (mPutO j mk mv) := by
  intro Φ F σ H ρ De W r x gg
  refine hv Φ F σ H ρ _ W r x ((GoodS.out (r := mv ρ) gg).mono (fun p gp v F1 H1 r1 s1 rv => ?_) fun _ _ _ w => w)
  cases e : mu p.2 j with
  | none => simp only [e] at gp; exact gp.elim
  | some d0 =>
    simp only [e] at gp
    obtain ⟨a, ea, _, _⟩ := r1.mu e
    refine ⟨_, ea, hk Φ F1 σ H1 p.2 _ W r1 x ((GoodS.out (r := mk p.2) gp).mono (fun q gq y F2 H2 r2 s2 ry => ?_) fun _ _ _ w => up.weak s1 w)⟩
    split at gq
    · rename_i kds e1
      obtain ⟨a', ea', nF, ow⟩ := r2.mu e1
      rw [ea] at ea'
      cases ea'
      obtain ⟨kvs, h1, h2⟩ := ow
      split at gq
      · rename_i k ek
        split at gq
        · rename_i hl
          obtain ⟨rfl, _⟩ := keyD_ok ry ek
          refine ⟨a, _, rfl, DPut.k h1 (by rw [h2.length, sizeLine_eq]; exact hl), ?_⟩
          exact gq σ F2 _ (r2.putMu e1 ea ⟨_, upd_same, h2.put (rv.mono s2)⟩) (s1.trans s2)
        · exact gq.elim
      · exact gq.elim
    · exact gq.elim
/-! methods of an own list -/
def mApp (j : Nat) (m : ME) : ME := fun ρ => match mu ρ j with
  | some (.list _) => (m ρ).bind fun p => match mu p.2 j with
    | some (.list ds) => if ds.length < 16777216 then .ok (.none, putMu p.2 j (.list (ds ++ [p.1]))) else .stuck
    | _ => .stuck
  | _ => .stuck
theorem tyV_own {F H : Hp} {a : Addr} {ds : List D} (o : OwnR K F H a (.list ds)) : tyV K "list" (.ref a) H := by
  obtain ⟨vs, h1, _⟩ := o
  exact .inl ⟨rfl, _, SqL.of h1⟩
theorem sh_app {j : Nat} (h : ShE K mg E te m) : ShE K mg E (tBM K "list" rAppend (tVar j) (tCons te tNil)) (mApp j m) := by
  intro Φ F σ H ρ Q W r x g
  unfold mApp at g
  split at g
  · rename_i d0 e0
    obtain ⟨a, ea, _, ow0⟩ := r.mu e0
    refine ⟨_, ea, tyV_own ow0, h Φ F σ H ρ _ W r x ((Good.bind (r := m ρ) g).mono (fun p gp v F1 H1 r1 s1 rv => ?_) fun _ _ _ w => w)⟩
    split at gp
    · rename_i ds e1
      split at gp
      · rename_i hl
        obtain ⟨a', ea', nF, vs, h1, h2⟩ := r1.mu e1
        rw [ea] at ea'
        cases ea'
        refine ⟨a, vs, v, rfl, rfl, h1, by rw [h2.length, sizeLine_eq]; exact hl, ?_⟩
        exact gp _ F1 _ (r1.putMu e1 ea ⟨_, upd_same, h2.append (.cons rv .nil)⟩) s1 .non
      · exact gp.elim
    · exact gp.elim
  · exact g.elim
def mIns (j : Nat) (mi m : ME) : ME := fun ρ => match mu ρ j with
  | some (.list _) => (mA [mi, m] ρ).bind fun p => match mu p.2 j, p.1 with
    | some (.list ds), [.int i, y] => if ds.length < 16777216 ∧ 0 ≤ i ∧ i < 1000000000 then .ok (.none, putMu p.2 j (.list (ds.take i.toNat ++ [y] ++ ds.drop i.toNat))) else .stuck
    | _, _ => .stuck
  | _ => .stuck
theorem sh_ins {j : Nat} (h : ShA K mg E tr [mk, m]) : ShE K mg E (tBM K "list" Rd.INS (tVar j) tr) (mIns j mk m) := by
  intro Φ F σ H ρ Q W r x g
  unfold mIns at g
  split at g
  · rename_i d0 e0
    obtain ⟨a, ea, _, ow0⟩ := r.mu e0
    refine ⟨_, ea, tyV_own ow0, h Φ F σ H ρ _ W r x ((Good.bind (r := mA [mk, m] ρ) g).mono (fun p gp vs F1 H1 r1 s1 rv el => ?_) fun _ _ _ w => w)⟩
    obtain ⟨ds0, ρ'⟩ := p
    dsimp only at gp rv r1
    split at gp
    · rename_i ds i y e1
      split at gp
      · rename_i hl
        obtain ⟨a', ea', nF, xs, h1, h2⟩ := r1.mu e1
        rw [ea] at ea'
        cases ea'
        obtain ⟨v, w, rfl, hv, hw⟩ := two_rp rv
        cases hv
        refine ⟨a, xs, i, w, rfl, rfl, h1, by rw [h2.length, sizeLine_eq]; exact hl.1, hl.2.1, by have := hl.2.2; omega, ?_⟩
        exact gp _ F1 _ (r1.putMu e1 ea ⟨_, upd_same, ((h2.take _).append (.cons hw .nil)).append (h2.drop _)⟩) s1 .non
      · exact gp.elim
    · exact gp.elim
  · exact g.elim
/-- x[i] = v of an own list -/
def mSetIx (j : Nat) (mi mv : ME) : MS := fun ρ => (mv ρ).out fun p => match mu p.2 j with
  | none => .stuck
  | some _ => (mi p.2).out fun q => match mu q.2 j, q.1 with
    | some (.list ds), .int i => match ixN ds.length i with
      | some k => .nx (putMu q.2 j (.list (ds.set k p.1)))
      | none => .stuck
    | _, _ => .stuck
theorem shs_setIx {j : Nat} (hi : ShE K mg E ty mk) (hv : ShE K mg E tv mv) : ShS K mg E (tAsg tv (gSub (tVar j) ty rSetL)) (mSetIx j mk mv) := by
  intro Φ F σ H ρ De W r x gg
  refine hv Φ F σ H ρ _ W r x ((GoodS.out (r := mv ρ) gg).mono (fun p gp v F1 H1 r1 s1 rv => ?_) fun _ _ _ w => w)
  cases e : mu p.2 j with
  | none => simp only [e] at gp; exact gp.elim
  | some d0 =>
    simp only [e] at gp
    obtain ⟨a, ea, _, _⟩ := r1.mu e
    refine ⟨_, ea, hi Φ F1 σ H1 p.2 _ W r1 x ((GoodS.out (r := mk p.2) gp).mono (fun q gq y F2 H2 r2 s2 ry => ?_) fun _ _ _ w => up.weak s1 w)⟩
    obtain ⟨dq, ρq⟩ := q
    dsimp only at gq ry r2
    split at gq
    · rename_i ds i e1
      obtain ⟨a', ea', nF, vs, h1, h2⟩ := r2.mu e1
      rw [ea] at ea'
      cases ea'
      cases ry
      split at gq
      · rename_i k ek
        refine ⟨a, vs, i, k, rfl, rfl, h1, by rw [h2.length]; exact ek, ?_⟩
        exact gq σ F2 _ (r2.putMu e1 ea ⟨_, upd_same, h2.set k (rv.mono s2)⟩) (s1.trans s2)
      · exact gq.elim
    · exact gq.elim
/-! slices -/
abbrev MO := Env → Res (Option Int × Env)
def ShO (K : PySem.W.Frag) (mg : Str → Option Value) (E : L2.St → XK) (t : TO) (m : MO) : Prop := ∀ (Φ : Fm) (F : Hp) (σ : L2.St) (H : Hp) (ρ : Env) (Q : Option Int → Hp → Prop) (W : WXm), R K Φ F σ H ρ → XW K mg Φ E W →
  Good (m ρ) (fun p => ∀ F' H', R K Φ F' σ H' p.2 → Same F F' → Q p.1 H') (up F W) → t σ H Q
def mNoPart : MO := fun ρ => .ok (none, ρ)
theorem sho_none : ShO K mg E tNoPart mNoPart := fun Φ F σ H ρ Q W r x g => g F H r (Same.refl _)
def mPart (m : ME) : MO := fun ρ => (m ρ).bind fun p => match p.1 with
  | .int i => .ok (some i, p.2)
  | _ => .stuck
theorem sho_some (h : ShE K mg E te m) : ShO K mg E (tPart te) (mPart m) := by
  intro Φ F σ H ρ Q W r x g
  refine h Φ F σ H ρ _ W r x ((Good.bind (r := m ρ) g).mono (fun p gp v F1 H1 r1 s1 rv => ?_) fun _ _ _ w => w)
  obtain ⟨d, ρ'⟩ := p
  cases rv <;> try (exact False.elim gp)
  exact ⟨_, rfl, gp F1 H1 r1 s1⟩
def cutD (xs : List D) (lo hi : Option Int) : List D := (xs.drop (HT.sIx xs.length 0 lo)).take (HT.sIx xs.length xs.length hi - HT.sIx xs.length 0 lo)
theorem cut_rp {F : Hp} {xs : List V} {ds : List D} {lo hi : Option Int} (r : RpA K F xs ds) : RpA K F (cutV xs lo hi) (cutD ds lo hi) := by
  unfold cutV cutD
  rw [r.length]
  exact (r.drop _).take _
def mSl (f : D → Option Int → Option Int → Option D) (m : ME) (ml mh : MO) : ME := fun ρ => (m ρ).bind fun p => (ml p.2).bind fun l => (mh l.2).bind fun h => ret (f p.1 l.1 h.1) h.2
def fSlT : D → Option Int → Option Int → Option D
  | .tuple ds, lo, hi => some (.tuple (cutD ds lo hi))
  | _, _, _ => none
def fSlL : D → Option Int → Option Int → Option D
  | .list ds, lo, hi => some (.list (cutD ds lo hi))
  | _, _, _ => none
theorem sh_slT {tl th : TO} {ml mh : MO} (h : ShE K mg E te m) (hl : ShO K mg E tl ml) (hh : ShO K mg E th mh) : ShE K mg E (tSl (rSlA K) te tl th) (mSl fSlT m ml mh) := by
  intro Φ F σ H ρ Q W r x g
  refine h Φ F σ H ρ _ W r x ((Good.bind (r := m ρ) g).mono (fun p gp v F1 H1 r1 s1 rv => ?_) fun _ _ _ w => w)
  refine hl Φ F1 σ H1 p.2 _ W r1 x ((Good.bind (r := ml p.2) gp).mono (fun l gl F2 H2 r2 s2 => ?_) fun _ _ _ w => up.weak s1 w)
  refine hh Φ F2 σ H2 l.2 _ W r2 x ((Good.bind (r := mh l.2) gl).mono (fun q gq F3 H3 r3 s3 => ?_) fun _ _ _ w => up.weak (s1.trans s2) w)
  obtain ⟨d, ρ'⟩ := p
  have rv3 := rv.mono (s2.trans s3)
  cases rv <;> try (exact False.elim gq)
  rename_i a xs ds h1 h2
  have hs := s2.trans s3
  refine ⟨a, xs, rfl, r3.sub.seqT (hs.seqT h1), fun z => ?_, fun _ p np => ?_⟩
  · have ec : cutD ds l.1 q.1 = ds := by
      unfold cutD
      rw [← h2.length, z.1, z.2, List.drop_zero, Nat.sub_zero, h2.length, List.take_length]
    have gq : ∀ v F' H', R K Φ F' σ H' q.2 → Same F F' → Rp K F' v (.tuple (cutD ds l.1 q.1)) → Q v H' := gq
    rw [ec] at gq
    exact gq _ F3 H3 r3 ((s1.trans s2).trans s3) rv3
  · obtain ⟨r4, s4⟩ := r3.alloc (o := .tup (cutV xs l.1 q.1)) np
    exact gq _ _ _ r4 (((s1.trans s2).trans s3).trans s4) (.tup (SqT.of upd_same) (cut_rp (h2.mono (hs.trans s4))))
theorem shf_slL {tl th : TO} {ml mh : MO} (h : ShE K mg E te m) (hl : ShO K mg E tl ml) (hh : ShO K mg E th mh) : ShF K mg E (tSl (rSlL K) te tl th) (mSl fSlL m ml mh) := by
  intro Φ F σ H ρ Q W r x g
  refine h Φ F σ H ρ _ W r x ((Good.bind (r := m ρ) g).mono (fun p gp v F1 H1 r1 s1 rv => ?_) fun _ _ _ w => w)
  refine hl Φ F1 σ H1 p.2 _ W r1 x ((Good.bind (r := ml p.2) gp).mono (fun l gl F2 H2 r2 s2 => ?_) fun _ _ _ w => up.weak s1 w)
  refine hh Φ F2 σ H2 l.2 _ W r2 x ((Good.bind (r := mh l.2) gl).mono (fun q gq F3 H3 r3 s3 => ?_) fun _ _ _ w => up.weak (s1.trans s2) w)
  obtain ⟨d, ρ'⟩ := p
  cases rv <;> try (exact False.elim gq)
  rename_i a xs ds h1 h2
  have hs := s2.trans s3
  refine ⟨a, xs, rfl, SqL.of (r3.sub _ _ (hs _ _ h1)), fun p np => ?_⟩
  obtain ⟨r4, nF, n0, ap⟩ := r3.allocO (o := .lst (cutV xs l.1 q.1)) np
  exact gq p F3 _ r4 ((s1.trans s2).trans s3) nF n0 ap ⟨_, upd_same, cut_rp (h2.mono hs)⟩
/-! + of lists and tuples -/
def fCatT : D → D → Option D
  | .tuple a, .tuple b => if a.length + b.length ≤ 16777216 then some (.tuple (a ++ b)) else none
  | _, _ => none
theorem s_catT : OpSh K (rCatA K) fCatT := by
  intro Φ F σ H ρ x y dx dy d Q rr rx ry e q
  cases dx <;> first | (cases e; done) | skip
  cases dy <;> first | (cases e; done) | skip
  rename_i as bs
  have e : (if as.length + bs.length ≤ 16777216 then some (PyData.tuple (as ++ bs)) else none) = some d := e
  split at e
  · rename_i hl
    cases e
    have rx' := rx
    have ry' := ry
    cases rx with
    | tup h1 h2 =>
      cases ry with
      | tup h3 h4 =>
        refine ⟨_, _, _, _, rfl, rfl, rr.sub.seqT h1, rr.sub.seqT h3, by rw [h2.length, h4.length, sizeLine_eq]; exact hl, fun z => ?_, fun _ z => ?_, fun _ _ p np => ?_⟩
        · subst z
          cases h2
          exact q _ F H rr (Same.refl _) ry'
        · subst z
          cases h4
          rw [List.append_nil] at q
          exact q _ F H rr (Same.refl _) rx'
        · obtain ⟨r4, s4⟩ := rr.alloc (o := .tup _) np
          exact q _ _ _ r4 s4 (.tup (SqT.of upd_same) ((h2.mono s4).append (h4.mono s4)))
  · cases e
def OpF (K : PySem.W.Frag) (r : R2) (f : D → D → Option D) : Prop := ∀ (F H : Hp) (x y : V) (dx dy d : D) (Q : VK), Same F H → Rp K F x dx → Rp K F y dy → f dx dy = some d →
  (∀ a ys es, H a = none → d = .list es → RpA K F ys es → Q (.ref a) (upd H a (.lst ys))) → r x y H Q
theorem shf_op {r : R2} {f : D → D → Option D} (ho : OpF K r f) (ha : ShE K mg E ta ma) (hb : ShE K mg E tb mb) : ShF K mg E (tOp r ta tb) (mOp f ma mb) := by
  intro Φ F σ H ρ Q W rr x g
  have g1 := Good.bind (r := ma ρ) g
  refine ha Φ F σ H ρ _ W rr x (g1.mono (fun p gp v F1 H1 r1 s1 rv => ?_) fun _ _ _ w => w)
  have g2 := gp.bind
  refine hb Φ F1 σ H1 p.2 _ W r1 x (g2.mono (fun q gq v2 F2 H2 r2 s2 rv2 => ?_) fun _ _ _ w => up.weak s1 w)
  unfold ret at gq
  cases e : f p.1 q.1 with
  | none => rw [e] at gq; exact gq.elim
  | some d =>
    rw [e] at gq
    refine ho F2 H2 v v2 _ _ d Q r2.sub (rv.mono s2) rv2 e fun a ys es na ed rys => ?_
    subst ed
    obtain ⟨r3, nF, n0, ap⟩ := r2.allocO (o := .lst ys) na
    exact gq a _ _ r3 (s1.trans s2) nF n0 ap ⟨ys, upd_same, rys⟩
def fCatL : D → D → Option D
  | .list a, .list b => if a.length + b.length ≤ 16777216 then some (.list (a ++ b)) else none
  | _, _ => none
theorem f_catL : OpF K rCat fCatL := by
  intro F H x y dx dy d Q s rx ry e q
  cases dx <;> first | (cases e; done) | skip
  cases dy <;> first | (cases e; done) | skip
  rename_i as bs
  have e : (if as.length + bs.length ≤ 16777216 then some (PyData.list (as ++ bs)) else none) = some d := e
  split at e
  · rename_i hl
    cases e
    cases rx with
    | lst h1 h2 =>
      cases ry with
      | lst h3 h4 => exact ⟨_, _, _, _, rfl, rfl, s _ _ h1, s _ _ h3, by rw [h2.length, h4.length, sizeLine_eq]; exact hl, fun p np => q p _ _ np rfl (h2.append h4)⟩
  · cases e
/-! sorted -/
def insI (x : Int) : List Int → List Int
  | [] => [x]
  | y :: ys => if x ≤ y then x :: y :: ys else y :: insI x ys
def sortI : List Int → List Int
  | [] => []
  | x :: xs => insI x (sortI xs)
theorem insI_perm (x : Int) : ∀ ys : List Int, (insI x ys).Perm (x :: ys)
  | [] => .refl _
  | y :: ys => by
    unfold insI
    split
    · exact .refl _
    · exact ((insI_perm x ys).cons y).trans (.swap x y ys)
theorem sortI_perm : ∀ xs : List Int, (sortI xs).Perm xs
  | [] => .refl _
  | x :: xs => (insI_perm x _).trans ((sortI_perm xs).cons x)
theorem insI_pw (x : Int) : ∀ ys : List Int, ys.Pairwise (· ≤ ·) → (insI x ys).Pairwise (· ≤ ·)
  | [], _ => List.pairwise_singleton ..
  | y :: ys, h => by
    obtain ⟨h1, h2⟩ := List.pairwise_cons.mp h
    unfold insI
    split
    · rename_i c
      refine List.pairwise_cons.mpr ⟨fun z hz => ?_, h⟩
      rcases List.mem_cons.mp hz with rfl | hz
      · exact c
      · exact Int.le_trans c (h1 z hz)
    · rename_i c
      refine List.pairwise_cons.mpr ⟨fun z hz => ?_, insI_pw x ys h2⟩
      rcases List.mem_cons.mp ((insI_perm x ys).mem_iff.mp hz) with rfl | hz
      · omega
      · exact h1 z hz
theorem sortI_pw : ∀ xs : List Int, (sortI xs).Pairwise (· ≤ ·)
  | [] => .nil
  | x :: xs => insI_pw x _ (sortI_pw xs)
theorem sorted_eq : ∀ {xs ys : List Int}, xs.Perm ys → xs.Pairwise (· ≤ ·) → ys.Pairwise (· ≤ ·) → xs = ys
  | [], ys, p, _, _ => p.nil_eq
  | x :: xs, [], p, _, _ => absurd p.length_eq (by simp)
  | x :: xs, y :: ys, p, h1, h2 => by
    obtain ⟨a1, a2⟩ := List.pairwise_cons.mp h1
    obtain ⟨b1, b2⟩ := List.pairwise_cons.mp h2
    have e1 : x ∈ y :: ys := p.mem_iff.mp (List.mem_cons_self ..)
    have e2 : y ∈ x :: xs := p.mem_iff.mpr (List.mem_cons_self ..)
    have e : x = y := by
      have l1 : y ≤ x := by rcases List.mem_cons.mp e1 with rfl | z; exact Int.le_refl _; exact b1 _ z
      have l2 : x ≤ y := by rcases List.mem_cons.mp e2 with rfl | z; exact Int.le_refl _; exact a1 _ z
      omega
    subst e
    rw [sorted_eq (p.cons_inv) a2 b2]
def cbSorted : List D → Option D
  | [.list ds] => (intsD ds).bind fun ns => if ns.length < 64 then some (.list ((sortI ns).map .int)) else none
  | _ => none
theorem cf_sorted : CbF K (rSorted K) cbSorted := fun F H xs ds d Q s rx e q => by
  unfold cbSorted at e
  split at e
  · rename_i es
    obtain ⟨v, rfl, hv⟩ := one_rp rx
    cases z : intsD es with
    | none => rw [z] at e; cases e
    | some ns =>
      rw [z] at e
      have e : (if ns.length < 64 then some (PyData.list ((sortI ns).map .int)) else none) = some d := e
      split at e
      · rename_i hl
        cases e
        cases hv with
        | lst h1 h2 =>
          refine ⟨_, ns, rfl, by rw [← h2.ints (intsD_eq z)]; exact SqL.of (s _ _ h1), hl, fun ns' p pm pw np => ?_⟩
          have : ns' = sortI ns := sorted_eq (pm.trans (sortI_perm ns).symm) pw (sortI_pw ns)
          subst this
          exact q p _ _ np rfl (RpA.ofInts _)
      · cases e
  · cases e
/-! isinstance -/
def tyD : D → String
  | .none => "NoneType"
  | .bool _ => "bool"
  | .int _ => "int"
  | .str _ => "str"
  | .list _ => "list"
  | .tuple _ => "tuple"
  | .dict _ => "dict"
def isiD (n : String) (d : D) : Option Bool := match d with
  | .dict _ => none
  | d => kitB (tyD d) n
theorem tyX_ok {F H : Hp} {v : V} {d : D} (s : Same F H) (r : Rp K F v d) (nd : ∀ k, d ≠ .dict k) : TyX K H v (.type (tyD d)) := by
  cases r with
  | non => exact .base .non
  | bl b => exact .base (.bl b)
  | int i => exact .base (.int i)
  | str x => exact .base (.str x)
  | lst h1 h2 => exact .base (.lst (s _ _ h1))
  | scr h1 h2 => exact absurd rfl (nd _)
  | dic h1 h2 => exact absurd rfl (nd _)
  | tup h1 h2 =>
    rcases s.seqT h1 with (h | ⟨o, h⟩) | ⟨o, its, n, h, c, _⟩
    · exact .base (.tup h)
    · exact .fTuple h
    · exact .kTuple h c
def mIsi (n : String) (m : ME) : ME := fun ρ => (m ρ).bind fun p => match isiD n p.1 with
  | some b => .ok (.bool b, p.2)
  | none => .stuck
theorem sh_isi {n : String} (h : ShE K mg E te m) : ShE K mg E (tCB (rIsi K) (tCons te (tCons (tC (.ty n)) tNil))) (mIsi n m) := by
  intro Φ F σ H ρ Q W r x g
  refine h Φ F σ H ρ _ W r x ((Good.bind (r := m ρ) g).mono (fun p gp v F1 H1 r1 s1 rv => ?_) fun _ _ _ w => w)
  cases e : isiD n p.1 with
  | none => simp only [e] at gp; exact gp.elim
  | some b =>
    simp only [e] at gp
    have nd : ∀ k, p.1 ≠ .dict k := fun k z => by rw [z] at e; cases e
    have ek : kitB (tyD p.1) n = some b := by
      unfold isiD at e
      split at e
      · cases e
      · exact e
    exact ⟨v, .ty n, _, _, b, rfl, .ty n, tyX_ok r1.sub rv nd, kit_ty ek, gp _ F1 H1 r1 s1 (.bl b)⟩
/-! ### calls -/
abbrev MF := List D → Res D
abbrev MFi := D → List D → Res (D × D)
/-- a def that changes nothing of its caller's -/
def spP (K : PySem.W.Frag) (mg : Str → Option Value) (n : Nat) (f : MF) : Sp := fun vs H Q E => vs.length = n ∧ ∃ F ds, Same F H ∧ RpA K F vs ds ∧
  Good (f ds) (fun d => ∀ v F' H', Same F F' → Same F' H' → (∀ b, F b = none → H b ≠ none → F' b = none) → Same H H' → Rp K F' v d → Q v H')
    (fun c d _ => ∀ C dx fs F' H', Same F F' → Same F' H' → (∀ b, F b = none → H b ≠ none → F' b = none) → Same H H' → mg c = some (.ref C) → H' dx = some (.xd fs) → F' dx = none → H dx = none → RpX K F' fs d → E (.ref C) (some dx) H')
/-- a def that makes a new object for its caller -/
def spF (K : PySem.W.Frag) (n : Nat) (f : MF) : Sp := fun vs H Q _ => vs.length = n ∧ ∃ F ds, Same F H ∧ RpA K F vs ds ∧
  Good (f ds) (fun d => ∀ a F' H', Same F F' → Same F' H' → (∀ b, F b = none → H b ≠ none → F' b = none) → Same H H' → F' a = none → H a = none → OwnR K F' H' a d → Q (.ref a) H') (fun _ _ _ => False)
/-- a def that may change its first argument -/
def spI (K : PySem.W.Frag) (n : Nat) (f : MFi) : Sp := fun vs H Q _ => vs.length = n + 1 ∧ ∃ F a d0 us ds, vs = .ref a :: us ∧ Same F H ∧ F a = none ∧ OwnR K F H a d0 ∧ RpA K F us ds ∧
  Good (f d0 ds) (fun p => ∀ v F' H', Same F F' → Same F' H' → (∀ b, F b = none → H b ≠ none → F' b = none) → (∀ b o, H b = some o → b ≠ a → H' b = some o) → OwnR K F' H' a p.2 → Rp K F' v p.1 → Q v H') (fun _ _ _ => False)
def mCall (f : MF) (ms : List ME) : ME := fun ρ => (mA ms ρ).bind fun p => (f p.1).nx.bind fun d => .ok (d, p.2)
theorem sh_call {f : MF} {n : Nat} (h : ShA K mg E tr ms) (hl : ms.length = n) : ShE K mg E (tCall (spP K mg n f) [] E0 tr) (mCall f ms) := by
  intro Φ F σ H ρ Q W r x g
  refine h Φ F σ H ρ _ W r x ((Good.bind (r := mA ms ρ) g).mono (fun p gp vs F1 H1 r1 s1 rv el => ?_) fun _ _ _ w => w)
  rw [List.append_nil]
  refine ⟨by rw [el, hl], F1, p.1, r1.sub, rv, (Good.nx (W' := fun _ _ _ => False) (Good.bind (r := (f p.1).nx) gp)).mono (fun d gd v F' H' sF sH nw kp rd => ?_) fun _ _ _ w => w.elim⟩
  exact gd v F' H' (r1.grow sF sH nw kp) (s1.trans sF) rd
theorem shf_call {f : MF} {n : Nat} (h : ShA K mg E tr ms) (hl : ms.length = n) : ShF K mg E (tCall (spF K n f) [] E0 tr) (mCall f ms) := by
  intro Φ F σ H ρ Q W r x g
  refine h Φ F σ H ρ _ W r x ((Good.bind (r := mA ms ρ) g).mono (fun p gp vs F1 H1 r1 s1 rv el => ?_) fun _ _ _ w => w)
  rw [List.append_nil]
  refine ⟨by rw [el, hl], F1, p.1, r1.sub, rv, (Good.nx (W' := fun _ _ _ => False) (Good.bind (r := (f p.1).nx) gp)).mono (fun d gd a F' H' sF sH nw kp nF' na ow => ?_) fun _ _ _ w => w.elim⟩
  refine gd a F' H' (r1.grow sF sH nw kp) (s1.trans sF) nF' (r1.dom a na) (fun j d e z => ?_) ow
  obtain ⟨b, w1, w2, w3, w4⟩ := r1.sl j _ e
  rw [z] at w1
  cases w1
  obtain ⟨o, eo⟩ := w4.ex
  rw [na] at eo
  cases eo
def mCallI (f : MFi) (j : Nat) (ms : List ME) : ME := fun ρ => match mu ρ j with
  | none => .stuck
  | some _ => (mA ms ρ).bind fun p => match mu p.2 j with
    | none => .stuck
    | some d0 => (f d0 p.1).nx.bind fun q => .ok (q.1, putMu p.2 j q.2)
theorem sh_callI {f : MFi} {n j : Nat} (h : ShA K mg E tr ms) (hl : ms.length = n) : ShE K mg E (tCall (spI K n f) [] E0 (tCons (tVar j) tr)) (mCallI f j ms) := by
  intro Φ F σ H ρ Q W r x g
  unfold mCallI at g
  cases e : mu ρ j with
  | none => rw [e] at g; exact g.elim
  | some d00 =>
    rw [e] at g
    obtain ⟨a, ea, _, _⟩ := r.mu e
    refine ⟨_, ea, h Φ F σ H ρ _ W r x ((Good.bind (r := mA ms ρ) g).mono (fun p gp vs F1 H1 r1 s1 rv el => ?_) fun _ _ _ w => w)⟩
    show spI K n f ((V.ref a :: vs) ++ []) H1 Q E0
    rw [List.append_nil]
    cases e1 : mu p.2 j with
    | none => simp only [e1] at gp; exact gp.elim
    | some d0 =>
      simp only [e1] at gp
      obtain ⟨a', ea', nF, ow⟩ := r1.mu e1
      rw [ea] at ea'
      cases ea'
      refine ⟨by rw [List.length_cons, el, hl], F1, a, d0, vs, p.1, rfl, r1.sub, nF, ow, rv, (Good.nx (W' := fun _ _ _ => False) (Good.bind (r := (f d0 p.1).nx) gp)).mono (fun q gq v F' H' sF sH nw kp ow' rd => ?_) fun _ _ _ w => w.elim⟩
      exact gq v F' H' (r1.growMu sF sH nw kp e1 ea ow') (s1.trans sF) rd
/-! ### a def by its body -/
def envP (N : Nat) (ds : List D) : Env := ds.map .val ++ List.replicate (N - ds.length) .no
def runP (N : Nat) (m : MS) : MF := fun ds => match m (envP N ds) with
  | .nx _ => .ok .none
  | .rt d _ => .ok d
  | .exc c d ρ => .exc c d ρ
  | _ => .stuck
theorem start_get {N : List Str} {vs : List V} {i : Nat} {v : V} (h : vs[i]? = some v) : (L2.start N vs)[i]? = some (some v) := by
  unfold L2.start
  have hi : i < vs.length := (List.getElem?_eq_some_iff.mp h).1
  rw [List.getElem?_append_left (by rw [List.length_map]; exact hi), List.getElem?_map, h]
  rfl
theorem envP_get {N : Nat} {ds : List D} {i : Nat} {s : Sl} (h : (envP N ds)[i]? = some s) : s = .no ∨ ∃ d, s = .val d ∧ ds[i]? = some d := by
  unfold envP at h
  by_cases hi : i < ds.length
  · rw [List.getElem?_append_left (by rw [List.length_map]; exact hi), List.getElem?_map, List.getElem?_eq_getElem hi] at h
    cases h
    exact .inr ⟨_, rfl, List.getElem?_eq_getElem hi⟩
  · rw [List.getElem?_append_right (by rw [List.length_map]; omega), List.getElem?_replicate] at h
    split at h
    · cases h; exact .inl rfl
    · cases h
theorem start_len {N : List Str} {vs : List V} (h : vs.length ≤ N.length) : (L2.start N vs).length = N.length := by
  unfold L2.start
  rw [List.length_append, List.length_map, List.length_replicate]
  omega
theorem R.startP {N : List Str} {vs : List V} {ds : List D} {F H : Hp} (sub : Same F H) (rv : RpA K F vs ds) (hl : vs.length ≤ N.length) : R K ⟨H, none, F⟩ F (L2.start N vs) H (envP N.length ds) := by
  refine ⟨?_, sub, Same.refl _, fun b n _ => n, fun b o e _ => e, fun b e => e, fun i s e => ?_, fun i j a d e q1 => ?_, fun a e => (by cases e), fun i d e => ?_⟩
  · rw [start_len hl]
    unfold envP
    rw [List.length_append, List.length_map, List.length_replicate, ← rv.length]
    omega
  · rcases envP_get e with rfl | ⟨d, rfl, q⟩
    · trivial
    · obtain ⟨v, q1, q2⟩ := rv.get' q
      exact ⟨v, start_get q1, q2⟩
  · rcases envP_get q1 with z | ⟨_, z, _⟩ <;> cases z
  · rcases envP_get e with z | ⟨_, z, _⟩ <;> cases z
theorem body_P {N : List Str} {n : Nat} {f : MS} {vs : List V} {H : Hp} {Q : VK} {Ex : XK} (hs : ShS K mg (fun _ => Ex) s1 f) (h : spP K mg n (runP N.length f) vs H Q Ex) (hn : n ≤ N.length) : s1 { nx := fun _ H' => Q .non H', rt := Q } (L2.start N vs) H := by
  obtain ⟨hl, F, ds, sub, rv, g⟩ := h
  have r := R.startP (N := N) sub rv (by omega)
  refine hs ⟨H, none, F⟩ F _ H _ _ (fun c d _ _ => ∀ C dx fs F' H', Same F F' → Same F' H' → (∀ b, F b = none → H b ≠ none → F' b = none) → Same H H' → mg c = some (.ref C) → H' dx = some (.xd fs) → F' dx = none → H dx = none → RpX K F' fs d → Ex (.ref C) (some dx) H') r ?_ ?_
  · intro c d ρ F' σ' H' C dx fs r' em ex nF n0 rx w
    exact w C dx fs F' H' r'.sub0 r'.sub r'.new (fun b o e => r'.kept b o e (by intro z; cases z)) em ex nF n0 rx
  · unfold runP at g
    cases e : f (envP N.length ds) with
    | nx ρ => rw [e] at g; exact fun σ' F' H' r' s' => g .non F' H' s' r'.sub r'.new (fun b o e => r'.kept b o e (by intro z; cases z)) .non
    | rt d ρ => rw [e] at g; exact fun σ' v F' H' r' s' rd => g v F' H' s' r'.sub r'.new (fun b o e => r'.kept b o e (by intro z; cases z)) rd
    | bk ρ => rw [e] at g; exact g.elim
    | ct ρ => rw [e] at g; exact g.elim
    | exc c d ρ => rw [e] at g; exact fun F' _ => g
    | stuck => rw [e] at g; exact g.elim
def envI (N : Nat) (d0 : D) (ds : List D) : Env := .io d0 :: envP (N - 1) ds
def ioOf (ρ : Env) : D := match ρ[0]? with
  | some (Sl.io d) => d
  | _ => .none
def runI (N : Nat) (m : MS) : MFi := fun d0 ds => match m (envI N d0 ds) with
  | .nx ρ => .ok (.none, ioOf ρ)
  | .rt d ρ => .ok (d, ioOf ρ)
  | _ => .stuck
theorem R.startI {N : List Str} {a : Addr} {us : List V} {d0 : D} {ds : List D} {F H : Hp} (sub : Same F H) (nF : F a = none) (ow : OwnR K F H a d0) (rv : RpA K F us ds) (hl : us.length + 1 ≤ N.length) :
    R K ⟨H, some a, F⟩ F (L2.start N (.ref a :: us)) H (envI N.length d0 ds) := by
  obtain ⟨o, eo⟩ := ow.ex
  have len : (L2.start N (.ref a :: us)).length = (envI N.length d0 ds).length := by
    rw [start_len (by rw [List.length_cons]; exact hl)]
    unfold envI envP
    rw [List.length_cons, List.length_append, List.length_map, List.length_replicate, ← rv.length]
    omega
  have low : ∀ (i : Nat) s, (envI N.length d0 ds)[i]? = some s → (i = 0 ∧ s = .io d0) ∨ s = .no ∨ ∃ d v, s = .val d ∧ (L2.start N (.ref a :: us))[i]? = some (some v) ∧ Rp K F v d := by
    intro i s e
    cases i with
    | zero => cases e; exact .inl ⟨rfl, rfl⟩
    | succ i =>
      have e : (envP (N.length - 1) ds)[i]? = some s := e
      rcases envP_get e with rfl | ⟨d, rfl, q⟩
      · exact .inr (.inl rfl)
      · obtain ⟨v, q1, q2⟩ := rv.get' q
        exact .inr (.inr ⟨d, v, rfl, start_get (by simpa using q1), q2⟩)
  refine ⟨len, sub, Same.refl _, fun b n _ => n, fun b o e _ => e, fun b e => e, fun i s e => ?_, fun i j a d e q1 => ?_, fun b e => ?_, fun i d e => ?_⟩
  · rcases low i s e with ⟨_, rfl⟩ | rfl | ⟨d, v, rfl, q1, q2⟩
    · trivial
    · trivial
    · exact ⟨v, q1, q2⟩
  · rcases low i _ q1 with ⟨_, z⟩ | z | ⟨_, _, z, _⟩ <;> cases z
  · cases e
    exact ⟨by show H a ≠ none; rw [eo]; exact fun z => (by cases z), nF, d0, rfl, start_get (by rfl), ow⟩
  · rcases low i _ e with ⟨rfl, z⟩ | z | ⟨_, _, z, _⟩
    · exact ⟨rfl, a, rfl⟩
    · cases z
    · cases z
theorem body_I {N : List Str} {n : Nat} {f : MS} {vs : List V} {H : Hp} {Q : VK} {Ex : XK} (hs : ShS K mg (fun _ => Ex) s1 f) (h : spI K n (runI N.length f) vs H Q Ex) (hn : n + 1 ≤ N.length) : s1 { nx := fun _ H' => Q .non H', rt := Q } (L2.start N vs) H := by
  obtain ⟨hl, F, a, d0, us, ds, rfl, sub, nF, ow, rv, g⟩ := h
  rw [List.length_cons] at hl
  have r := R.startI (N := N) sub nF ow rv (by omega)
  have fin : ∀ {σ' : L2.St} {F' H' : Hp} {ρ : Env}, R K ⟨H, some a, F⟩ F' σ' H' ρ → (∀ b o, H b = some o → b ≠ a → H' b = some o) ∧ OwnR K F' H' a (ioOf ρ) := fun {σ' F' H' ρ} r' => by
    obtain ⟨_, _, d, q1, _, q3⟩ := r'.io1 a rfl
    refine ⟨fun b o e z => r'.kept b o e (by rintro ⟨⟩; exact z rfl), ?_⟩
    unfold ioOf
    rw [q1]
    exact q3
  refine hs ⟨H, some a, F⟩ F _ H _ _ (fun _ _ _ _ => False) r xw_false ?_
  unfold runI at g
  cases e : f (envI N.length d0 ds) with
  | nx ρ => rw [e] at g; exact fun σ' F' H' r' s' => g .non F' H' s' r'.sub r'.new (fin r').1 (fin r').2 .non
  | rt d ρ => rw [e] at g; exact fun σ' v F' H' r' s' rd => g v F' H' s' r'.sub r'.new (fin r').1 (fin r').2 rd
  | bk ρ => rw [e] at g; exact g.elim
  | ct ρ => rw [e] at g; exact g.elim
  | exc c d ρ => rw [e] at g; exact g.elim
  | stuck => rw [e] at g; exact g.elim
end
end Mi

set_option Elab.async false
set_option linter.all false
set_option maxRecDepth 100000
namespace Mi
open PySem PySem.Spec PyProof.Rows L2
section
variable {K : PySem.W.Frag} {mg : Str → Option Value} {E : L2.St → XK} {ta tb tc te td ty tv : TE} {t u : TT} {tr : TA} {ma mb mc m mk mv : ME} {mt mu' : MT} {ms : List ME} {s1 s2 : TS} {m1 m2 : MS}
/-! dict displays with written keys -/
def mDictL : List (Key × ME) → Env → Res (List (D × D) × Env)
  | [], ρ => .ok ([], ρ)
  | (k, m) :: r, ρ => (m ρ).nx.bind fun p => (mDictL r p.2).bind fun q => .ok ((kD k, p.1) :: q.1, q.2)
def mergeD (kds more : List (D × D)) : List (D × D) := more.foldl (fun acc kv => match keyD kv.1 with | some k => putD acc k kv.2 | none => acc) kds
theorem merge_rp {F : Hp} : ∀ {more : List (Key × V)} {mk : List (D × D)} {kvs : List (Key × V)} {kds : List (D × D)}, RpK K F more mk → RpK K F kvs kds → RpK K F (mergeK kvs more) (mergeD kds mk)
  | _, _, _, _, .nil, r => r
  | _, _, kvs, kds, .cons (k := k) (v := v) (d := d) (vs := vs) (ds := ds) h t, r => by
    have e : keyD (kD k) = some k := by cases k <;> rfl
    have : mergeD kds ((kD k, d) :: ds) = mergeD (putD kds k d) ds := by
      unfold mergeD
      rw [List.foldl_cons, e]
    rw [this]
    show RpK K F (mergeK (putK kvs k v) vs) _
    exact merge_rp t (r.put h)
def ShP (K : PySem.W.Frag) (mg : Str → Option Value) (E : L2.St → XK) (trs : List (TE × TE)) (kms : List (Key × ME)) : Prop := ∀ (Φ : Fm) (F : Hp) (σ : L2.St) (H : Hp) (ρ : Env) (Q : List (V × V) → Hp → Prop), R K Φ F σ H ρ →
  Good (mDictL kms ρ) (fun q => ∀ kvs F' H', R K Φ F' σ H' q.2 → Same F F' → RpK K F' kvs q.1 → kvs.length = kms.length → Q (kvs.map fun kv => (kV kv.1, kv.2)) H') (fun _ _ _ => False) → tPairs trs σ H Q
theorem shp_nil : ShP K mg E [] [] := fun Φ F σ H ρ Q r g => g [] F H r (Same.refl _) .nil rfl
theorem shp_cons {k : Key} {trs : List (TE × TE)} {kms : List (Key × ME)} (h : ShE K mg E te m) (hr : ShP K mg E trs kms) : ShP K mg E ((tC (kV k), te) :: trs) ((k, m) :: kms) := by
  intro Φ F σ H ρ Q r g
  have g1 := Good.nx (W' := fun _ _ _ => False) (Good.bind (r := (m ρ).nx) g)
  refine h Φ F σ H ρ _ (fun _ _ _ _ => False) r xw_false (g1.mono (fun p gp v F1 H1 r1 s1 rv => ?_) fun _ _ _ w => w.elim)
  have g2 := gp.bind
  refine hr Φ F1 σ H1 p.2 _ r1 (g2.mono (fun q gq kvs F2 H2 r2 s2 rk el => ?_) fun _ _ _ w => w.elim)
  exact gq ((k, v) :: kvs) F2 H2 r2 (s1.trans s2) (.cons (rv.mono s2) rk) (by rw [List.length_cons, List.length_cons, el])
def mDict (kms : List (Key × ME)) : ME := fun ρ => (mDictL kms ρ).nx.bind fun q => .ok (.dict (mergeD [] q.1), q.2)
theorem shf_disp {trs : List (TE × TE)} {kms : List (Key × ME)} (h : ShP K mg E trs kms) (hl : kms.length ≤ 15) : ShF K mg E (tDisp trs) (mDict kms) := by
  intro Φ F σ H ρ Q W r x g p np
  have g1 := Good.nx (W' := fun _ _ _ => False) (Good.bind (r := (mDictL kms ρ).nx) g)
  obtain ⟨r1, nF, n0, ap⟩ := r.allocO (o := .dK []) np
  have nF0 : Φ.F0 p = none := r.sub0.free nF
  have ni : Φ.io ≠ some p := fun z => absurd n0 (r.io1 p z).1
  refine h _ F σ _ ρ _ (r1.protect upd_same nF n0 ap) (g1.mono (fun q gq kvs F2 H2 r2 s2 rk el => ?_) fun _ _ _ w => w)
  obtain ⟨e2, nF2, ap2, r3⟩ := r2.unprot (u := .dK (mergeK [] kvs)) n0 nF0 ni
  exact ⟨e2, kvs, rfl, by rw [el]; exact hl, gq p F2 _ r3 s2 nF2 n0 ap2 ⟨_, upd_same, merge_rp rk .nil⟩⟩
/-! an own object or a fixed one, looked at -/
def mPk (j : Nat) (m : ME) (f : D → D → Option D) : ME := fun ρ => match mu ρ j with
  | some _ => mPeek j m f ρ
  | none => mOp f (mVar j) m ρ
theorem sh_pk {r : R2} {f : D → D → Option D} {j : Nat} (ho : PkSh K r f) (h2 : OpSh K r f) (h : ShE K mg E te m) : ShE K mg E (tOp r (tVar j) te) (mPk j m f) := by
  intro Φ F σ H ρ Q W rr x g
  unfold mPk at g
  cases e : mu ρ j with
  | some d0 => rw [e] at g; exact sh_peek ho h Φ F σ H ρ Q W rr x g
  | none => rw [e] at g; exact sh_op h2 (sh_var j) h Φ F σ H ρ Q W rr x g
theorem s_dget : OpSh K (fun x y H Q => ∃ a v, x = .ref a ∧ DGet H a y (some v) ∧ Q v H) fGetD := OpS.sh fun F H x y dx dy d Q s rx ry e q => by
  cases rx <;> try (cases e; done)
  · rename_i a xs ds h1 h2
    have e : (keyD dy).bind (valD [(.none, .list ds)]) = some d := e
    cases ek : keyD dy with
    | none => rw [ek] at e; cases e
    | some k =>
      rw [ek] at e
      have e : valD [(.none, .list ds)] k = some d := e
      unfold valD at e
      cases k <;> simp [eqK] at e
  · rename_i a kvs ds h1 h2
    obtain ⟨v, g1, g2⟩ := fGetD_ok (s _ _ h1) h2 ry e
    exact ⟨a, v, rfl, g1, q v g2⟩
theorem pk_dget : PkSh K (fun x y H Q => ∃ a v, x = .ref a ∧ DGet H a y (some v) ∧ Q v H) fGetD := fun F H a y d dy z Q s ow ry e q => by
  cases d <;> first | (cases e; done) | skip
  obtain ⟨kvs, h1, h2⟩ := ow
  obtain ⟨v, g1, g2⟩ := fGetD_ok h1 h2 ry e
  exact ⟨a, v, rfl, g1, q v g2⟩
def mGetV (j : Nat) (mk : ME) : ME := mPk j mk fGetD
theorem sh_getV {j : Nat} (hk : ShE K mg E ty mk) : ShE K mg E (tDGet (tVar j) ty) (mGetV j mk) :=
  (show ShE K mg E (tOp (fun x y H Q => ∃ a v, x = .ref a ∧ DGet H a y (some v) ∧ Q v H) (tVar j) ty) (mGetV j mk) from sh_pk pk_dget s_dget hk)
def mIxV (j : Nat) (mi : ME) : ME := mPk j mi fIxL
theorem sh_ixV {j : Nat} (hk : ShE K mg E ty mk) : ShE K mg E (tOp (rIxL K) (tVar j) ty) (mIxV j mk) := sh_pk pk_ixL s_ixL hk
def mLenV (j : Nat) : ME := fun ρ => match mu ρ j with
  | some (.list ds) => .ok (.int ds.length, ρ)
  | some _ => .stuck
  | none => mCB cbLen [mVar j] ρ
theorem sh_lenV {j : Nat} : ShE K mg E (tCB (fun xs H Q => ∃ p ys, xs = [.ref p] ∧ (SqL K H p ys ∨ SqT K H p ys) ∧ Q (.int ys.length) H) (tCons (tVar j) tNil)) (mLenV j) := by
  intro Φ F σ H ρ Q W r x g
  unfold mLenV at g
  cases e : mu ρ j with
  | none => rw [e] at g; exact sh_cb cs_len (sha_cons (sh_var j) sha_nil) Φ F σ H ρ Q W r x g
  | some d =>
    rw [e] at g
    cases d <;> first | (exact False.elim g) | skip
    obtain ⟨a, ea, _, vs, h1, h2⟩ := r.mu e
    exact ⟨_, ea, _, _, rfl, .inl (SqL.of h1), by rw [h2.length]; exact g _ F H r (Same.refl _) (.int _)⟩
/-! stars in a display -/
inductive AI where
  | one (m : ME)
  | star (m : ME)
def mAS : List AI → MA
  | [] => fun ρ => .ok ([], ρ)
  | .one m :: ms => fun ρ => (m ρ).bind fun p => (mAS ms p.2).bind fun q => .ok (p.1 :: q.1, q.2)
  | .star m :: ms => fun ρ => (m ρ).bind fun p => match itemsD p.1 with
    | some ds => (mAS ms p.2).bind fun q => .ok (ds ++ q.1, q.2)
    | none => .stuck
def ShAS (K : PySem.W.Frag) (mg : Str → Option Value) (E : L2.St → XK) (t : TA) (ms : List AI) : Prop := ∀ (Φ : Fm) (F : Hp) (σ : L2.St) (H : Hp) (ρ : Env) (Q : List V → Hp → Prop) (W : WXm), R K Φ F σ H ρ → XW K mg Φ E W →
  Good (mAS ms ρ) (fun p => ∀ vs F' H', R K Φ F' σ H' p.2 → Same F F' → RpA K F' vs p.1 → Q vs H') (up F W) → t σ H Q
variable {as : List AI}
theorem shas_nil : ShAS K mg E tNil [] := fun Φ F σ H ρ Q W r x g => g [] F H r (Same.refl _) .nil
theorem shas_one (ha : ShE K mg E te m) (hr : ShAS K mg E tr as) : ShAS K mg E (tCons te tr) (.one m :: as) := by
  intro Φ F σ H ρ Q W r x g
  refine ha Φ F σ H ρ _ W r x ((Good.bind (r := m ρ) g).mono (fun p gp v F1 H1 r1 s1 rv => ?_) fun _ _ _ w => w)
  refine hr Φ F1 σ H1 p.2 _ W r1 x (gp.bind.mono (fun q gq vs F2 H2 r2 s2 rvs => ?_) fun _ _ _ w => up.weak s1 w)
  exact gq (v :: vs) F2 H2 r2 (s1.trans s2) (.cons (rv.mono s2) rvs)
theorem shas_star (ha : ShE K mg E te m) (hr : ShAS K mg E tr as) : ShAS K mg E (StX.tStar K te tr) (.star m :: as) := by
  intro Φ F σ H ρ Q W r x g
  refine ha Φ F σ H ρ _ W r x ((Good.bind (r := m ρ) g).mono (fun p gp v F1 H1 r1 s1 rv => ?_) fun _ _ _ w => w)
  obtain ⟨d, ρ'⟩ := p
  cases rv <;> try (exact False.elim gp)
  · rename_i a xs ds h1 h2
    refine ⟨a, xs, rfl, .inr (SqL.of (r1.sub _ _ h1)), ?_⟩
    refine hr Φ F1 σ H1 ρ' _ W r1 x (Good.bind (r := mAS as ρ') gp |>.mono (fun q gq vs F2 H2 r2 s2 rvs => ?_) fun _ _ _ w => up.weak s1 w)
    exact gq (xs ++ vs) F2 H2 r2 (s1.trans s2) ((h2.mono s2).append rvs)
  · rename_i a xs ds h1 h2
    refine ⟨a, xs, rfl, .inl (r1.sub.seqT h1), ?_⟩
    refine hr Φ F1 σ H1 ρ' _ W r1 x (Good.bind (r := mAS as ρ') gp |>.mono (fun q gq vs F2 H2 r2 s2 rvs => ?_) fun _ _ _ w => up.weak s1 w)
    exact gq (xs ++ vs) F2 H2 r2 (s1.trans s2) ((h2.mono s2).append rvs)
def mTupS (as : List AI) : ME := fun ρ => (mAS as ρ).bind fun p => if p.1.length ≤ 16777216 then .ok (.tuple p.1, p.2) else .stuck
theorem sh_tupS (h : ShAS K mg E tr as) : ShE K mg E (tTup tr) (mTupS as) := by
  intro Φ F σ H ρ Q W r x g
  refine h Φ F σ H ρ _ W r x ((Good.bind (r := mAS as ρ) g).mono (fun p gp vs F1 H1 r1 s1 rv => ?_) fun _ _ _ w => w)
  split at gp
  · refine ⟨by rw [rv.length, sizeLine_eq]; assumption, fun a na => ?_⟩
    obtain ⟨r2, s2⟩ := r1.alloc (o := .tup vs) na
    exact gp _ _ _ r2 (s1.trans s2) (.tup (SqT.of upd_same) (rv.mono s2))
  · exact gp.elim
/-! texts -/
def fAddS : D → D → Option D
  | .str a, .str b => if a.length + b.length ≤ 16777216 then some (.str (a ++ b)) else none
  | _, _ => none
theorem s_addS : OpSh K (fun x y H Q => ∃ i j, x = .str i ∧ y = .str j ∧ i.length + j.length ≤ sizeLine ∧ Q (.str (i ++ j)) H) fAddS := OpS.sh fun F H x y dx dy d Q s rx ry e q => by
  unfold fAddS at e
  split at e
  · split at e
    · cases rx; cases ry; cases e
      exact ⟨_, _, rfl, rfl, by rw [sizeLine_eq]; assumption, q _ (.str _)⟩
    · cases e
  · cases e
def cbStr : List D → Option D
  | [.int i] => if i.natAbs.log2 < 1920 then some (.str (toString i)) else none
  | _ => none
theorem cs_str : CbSh K (fun xs H Q => ∃ i, xs = [.int i] ∧ i.natAbs.log2 < 1920 ∧ Q (.str (toString i)) H) cbStr := CbS.sh fun F H xs ds d Q s rx e q => by
  unfold cbStr at e
  split at e
  · obtain ⟨v, rfl, hv⟩ := one_rp rx
    split at e
    · cases e; cases hv
      exact ⟨_, rfl, by assumption, q _ (.str _)⟩
    · cases e
  · cases e
def cbLenS : List D → Option D
  | [.str z] => if z.length ≤ 16777216 then some (.int z.length) else none
  | _ => none
theorem cs_lenS : CbSh K (fun xs H Q => ∃ z, xs = [.str z] ∧ z.length ≤ sizeLine ∧ Q (.int z.length) H) cbLenS := CbS.sh fun F H xs ds d Q s rx e q => by
  unfold cbLenS at e
  split at e
  · obtain ⟨v, rfl, hv⟩ := one_rp rx
    split at e
    · cases e; cases hv
      exact ⟨_, rfl, by rw [sizeLine_eq]; assumption, q _ (.int _)⟩
    · cases e
  · cases e
/-- a def that hands back a new object -/
def runF (N : Nat) (m : MS) : MF := runP N m
def ShFs (K : PySem.W.Frag) (mg : Str → Option Value) (E : L2.St → XK) (t : TE) (m : ME) : Prop := ShF K mg E t m
theorem body_F {N : List Str} {n : Nat} {m : ME} {vs : List V} {H : Hp} {Q : VK} {Ex : XK} (hs : ShF K mg (fun _ => Ex) te m) (h : spF K n (runP N.length (mRet m)) vs H Q Ex) (hn : n ≤ N.length) : tRet te { nx := fun _ H' => Q .non H', rt := Q } (L2.start N vs) H := by
  obtain ⟨hl, F, ds, sub, rv, g⟩ := h
  have r := R.startP (N := N) sub rv (by omega)
  refine hs ⟨H, none, F⟩ F _ H _ _ (fun _ _ _ _ => False) r xw_false ?_
  unfold runP mRet at g
  cases e : m (envP N.length ds) with
  | ok p => rw [e] at g; exact fun a F' H' r' s' nF n0 _ ow => g a F' H' s' r'.sub r'.new (fun b o e => r'.kept b o e (by intro z; cases z)) nF n0 ow
  | exc c d ρ => rw [e] at g; exact g.elim
  | stuck => rw [e] at g; exact g.elim
/-! the law -/
def spLaw (K : PySem.W.Frag) : Sp := fun vs H Q _ => ∃ (a : Addr) (ns : List Int), vs = [.ref a] ∧ SqL K H a (ns.map V.int) ∧ ns.length ≤ 63 ∧ ∀ H', Q (.bl true) H'
def scr (ns : List Int) : D := .dict [(.none, .list (ns.map .int))]
theorem body_law {N : List Str} {f : MS} {vs : List V} {H : Hp} {Q : VK} {Ex : XK} (hs : ShS K mg (fun _ => Ex) s1 f) (h : spLaw K vs H Q Ex) (hn : 1 ≤ N.length) (hf : ∀ ns : List Int, ns.length ≤ 63 → runP N.length f [scr ns] = .ok (.bool true)) :
    s1 { nx := fun _ H' => Q .non H', rt := Q } (L2.start N vs) H := by
  obtain ⟨a, ns, rfl, hS, hl, q⟩ := h
  refine body_P (n := 1) hs ⟨rfl, H, [scr ns], Same.refl _, .cons (.scr hS (RpA.ofInts ns)) .nil, ?_⟩ hn
  rw [hf ns hl]
  intro v F' H' _ _ _ _ rv
  cases rv
  exact q H'
end
end Mi

set_option Elab.async false
set_option linter.all false
set_option maxRecDepth 100000
namespace Mi
open PySem PySem.Spec PyProof.Rows L2
section
variable {K : PySem.W.Frag} {mg : Str → Option Value} {E : L2.St → XK} {ta tb tc te td ty tv : TE} {t u : TT} {tr : TA} {ma mb mc m mk mv : ME} {mt mu' : MT} {ms : List ME} {s1 s2 : TS} {m1 m2 : MS}
/-! own errors: their making -/
theorem RpK.rev {F : Hp} : ∀ {a : List (Key × V)} {c : List (D × D)}, RpK K F a c → RpK K F a.reverse c.reverse
  | _, _, .nil => .nil
  | _, _, .cons h r => by rw [List.reverse_cons, List.reverse_cons]; exact (RpK.rev r).append (.cons h .nil)
def xfs (names : List Str) (ws : List V) : List (Str × V) := (names.zip ws).reverse
def spInit (K : PySem.W.Frag) (names : List Str) : Sp := fun vs H Q _ => vs.length = names.length + 1 ∧ ∃ (a C : Addr) (ws : List V), vs = .ref a :: ws ∧ OexC K C ∧ (∀ f ∈ names, PySem.W.findIn K (.ref C) f = some none) ∧ H a = some (exo a C none) ∧
  ∀ dx, H dx = none → dx ≠ a → Q .non (upd (upd H dx (exd dx (xfs names ws))) a (exo a C (some dx)))
theorem init1 {f : Str} {N : List Str} {vs : List V} {H : Hp} {Q : VK} {Ex : XK} (h : spInit K [f] vs H Q Ex) : tOst K f (tVar 0) (tVar 1) { nx := fun _ H' => Q .non H', rt := Q } (L2.start N vs) H := by
  obtain ⟨hl, a, C, ws, rfl, T, no, ha, q⟩ := h
  match ws, hl with
  | [v], _ =>
    refine ⟨v, start_get rfl, .ref a, start_get rfl, a, C, rfl, T, no f (List.mem_cons_self ..), .inl ⟨ha, fun dx n ne => ?_⟩⟩
    exact q dx n ne
theorem init2 {f g : Str} {N : List Str} {vs : List V} {H : Hp} {Q : VK} {Ex : XK} (h : spInit K [f, g] vs H Q Ex) : tSeq (tOst K f (tVar 0) (tVar 1)) (tOst K g (tVar 0) (tVar 2)) { nx := fun _ H' => Q .non H', rt := Q } (L2.start N vs) H := by
  obtain ⟨hl, a, C, ws, rfl, T, no, ha, q⟩ := h
  match ws, hl with
  | [v, w], _ =>
    refine ⟨v, start_get rfl, .ref a, start_get rfl, a, C, rfl, T, no f (List.mem_cons_self ..), .inl ⟨ha, fun dx n ne => ?_⟩⟩
    refine ⟨w, start_get rfl, .ref a, start_get rfl, a, C, rfl, T, no g (List.mem_cons_of_mem _ (List.mem_cons_self ..)), .inr ⟨dx, [(f, v)], upd_same, by rw [upd_ne ne]; exact upd_same, by simp, ?_⟩⟩
    have e : upd (upd (upd H dx (exd dx [(f, v)])) a (exo a C (some dx))) dx (exd dx [(g, w), (f, v)]) = upd (upd H dx (exd dx [(g, w), (f, v)])) a (exo a C (some dx)) := by
      funext b
      by_cases h1 : b = dx
      · subst h1; rw [upd_same, upd_ne ne, upd_same]
      · rw [upd_ne h1]
        by_cases h2 : b = a
        · subst h2; rw [upd_same, upd_same]
        · rw [upd_ne h2, upd_ne h1, upd_ne h2, upd_ne h1]
    rw [e]
    exact q dx n ne
theorem xfs_rp {F : Hp} : ∀ {names : List Str} {ws : List V} {ds : List D}, RpA K F ws ds → names.length = ws.length → RpX K F (xfs names ws) (.dict ((names.zip ds).reverse.map fun p => (.str p.1, p.2))) := by
  have zip : ∀ {names : List Str} {ws : List V} {ds : List D}, RpA K F ws ds → RpK K F ((names.zip ws).map fun p => ((.inr p.1 : Key), p.2)) ((names.zip ds).map fun p => (.str p.1, p.2)) := by
    intro names
    induction names with
    | nil => intro ws ds _; exact .nil
    | cons n names ih =>
      intro ws ds h
      cases h with
      | nil => exact .nil
      | cons h1 h2 => exact .cons (k := .inr n) h1 (ih h2)
  intro names ws ds h _
  refine ⟨_, rfl, ?_⟩
  unfold xfs
  rw [List.map_reverse, List.map_reverse]
  exact (zip h).rev
def mRaise (c : Str) (names : List Str) (ms : List ME) : MS := fun ρ => (mA ms ρ).out fun p => .exc c (.dict ((names.zip p.1).reverse.map fun q => (.str q.1, q.2))) p.2
theorem shs_raise {c : Str} {names : List Str} {C : Addr} (h : ShA K mg E tr ms) (hl : ms.length = names.length) (hn : names.length ≤ 1000) (gC : mg c = some (.ref C)) (T : OexC K C) (no : ∀ f ∈ names, PySem.W.findIn K (.ref C) f = some none) :
    ShS K mg E (fun _ σ H => tMkO C (spInit K names) [] tr σ H fun cls d H' => E σ cls d H') (mRaise c names ms) := by
  intro Φ F σ H ρ De W r x g
  refine h Φ F σ H ρ _ W r x ((GoodS.out (r := mA ms ρ) g).mono (fun p gp vs F1 H1 r1 s1 rv el => ?_) fun _ _ _ w => w)
  refine ⟨by rw [el, hl]; exact hn, fun a na => ?_⟩
  rw [List.append_nil]
  refine ⟨by rw [List.length_cons, el, hl], a, C, vs, rfl, T, no, upd_same, fun dx nd ne => ?_⟩
  have nd1 : H1 dx = none := by rw [upd_ne ne] at nd; exact nd
  refine ⟨rfl, dx, _, upd_same, by rw [upd_ne ne]; exact upd_same, nd1, ?_⟩
  have e : upd (del (upd (upd (upd H1 a (exo a C none)) dx (exd dx (xfs names vs))) a (exo a C (some dx))) a) dx (.xd (xfs names vs)) = upd H1 dx (.xd (xfs names vs)) := by
    funext b
    by_cases h1 : b = dx
    · subst h1; rw [upd_same, upd_same]
    · rw [upd_ne h1, upd_ne h1]
      by_cases h2 : b = a
      · subst h2; rw [del_same, na]
      · rw [del_ne h2, upd_ne h2, upd_ne h1, upd_ne h2]
  rw [e]
  obtain ⟨r2, nF, n0, _⟩ := r1.allocO (o := .xd (xfs names vs)) nd1
  exact x c _ p.2 F1 σ _ C dx (xfs names vs) r2 gC upd_same nF n0 (xfs_rp rv (by rw [el, hl])) (gp F1 s1)
/-! calls of defs that may raise -/
def mCallX (f : MF) (ms : List ME) : ME := fun ρ => (mA ms ρ).bind fun p => match f p.1 with
  | .ok d => .ok (d, p.2)
  | .exc c d _ => .exc c d p.2
  | .stuck => .stuck
theorem sh_callX {f : MF} {n : Nat} {Ec : L2.St → XK} (h : ShA K mg E tr ms) (hl : ms.length = n) (hE : ∀ σ cls d H, E σ cls d H → Ec σ cls d H) : ShE K mg E (tCallS (spP K mg n f) Ec tr) (mCallX f ms) := by
  intro Φ F σ H ρ Q W r x g
  refine h Φ F σ H ρ _ W r x ((Good.bind (r := mA ms ρ) g).mono (fun p gp vs F1 H1 r1 s1 rv el => ?_) fun _ _ _ w => w)
  refine ⟨by rw [el, hl], F1, p.1, r1.sub, rv, ?_⟩
  cases e : f p.1 with
  | ok d =>
    rw [e] at gp
    exact fun v F' H' sF sH nw kp rd => gp v F' H' (r1.grow sF sH nw kp) (s1.trans sF) rd
  | exc c d ρ' =>
    rw [e] at gp
    intro C dx fs F' H' sF sH nw kp gC ex nF n0 rx
    have r2 := r1.grow sF sH nw kp
    exact hE _ _ _ _ (x c d p.2 F' σ H' C dx fs r2 gC ex nF (r1.dom dx n0) rx (gp F' (s1.trans sF)))
  | stuck => rw [e] at gp; exact gp.elim
/-! try .. except X as n: return n.f -/
def fieldD (d : D) (f : Str) : Option D := match d with
  | .dict kds => valD kds (.inr f)
  | _ => none
theorem look_rp {F : Hp} {f : Str} {z : D} : ∀ {fs : List (Str × V)} {kds : List (D × D)}, RpK K F (fs.map fun p => ((.inr p.1 : Key), p.2)) kds → valD kds (.inr f) = some z → ∃ v, fs.lookup f = some v ∧ Rp K F v z
  | [], _, .nil, e => by cases e
  | (g, v) :: fs, _, .cons h r, e => by
    unfold valD at e
    rw [List.find?_cons] at e
    simp only [eqK_kD] at e
    by_cases q : g = f
    · subst q
      simp at e
      subst e
      exact ⟨v, by simp [List.lookup], h⟩
    · have q2 : ¬ (Sum.inr g : Key) = Sum.inr f := fun w => q (Sum.inr.inj w)
      rw [decide_eq_false q2] at e
      obtain ⟨v', h1, h2⟩ := look_rp (f := f) (fs := fs) r e
      have q3 : (f == g) = false := by simpa using fun w : f = g => q w.symm
      exact ⟨v', by simp [List.lookup, q3, h1], h2⟩
/-- what the clause's suite makes of the error's fields, when it hands something back -/
def mTryF (c : Str) (i : Nat) (g : D → Option D) (mb : MS) : MS := fun ρ => match mb ρ with
  | .exc c' d ρ' => if c' = c ∧ i < ρ'.length ∧ notIo ρ' i = true then (match g d with | some z => .rt z (ρ'.set i .no) | none => .stuck) else .stuck
  | o => o
/-- a suite that hands back g of the error -/
def SuF (K : PySem.W.Frag) (C : Addr) (i : Nat) (g : D → Option D) (ts : Addr → Value → Option Addr → TS) : Prop := ∀ (Φ : Fm) (a dd : Addr) (F : Hp) (σ : L2.St) (H : Hp) (ρ : Env) (De : Ends) (fs : List (Str × V)) (d z : D), R K Φ F σ H ρ → σ[i]? = some (some (.ref a)) →
  H dd = some (.xd fs) → RpX K F fs d → g d = some z → (∀ v F' H', R K Φ F' σ H' ρ → Same F F' → Rp K F' v z → De.rt v H') → ts a (.ref C) (some dd) De σ H
theorem su_field {C : Addr} {i : Nat} {f : Str} : SuF K C i (fun d => fieldD d f) (fun a cls d => tRet (tXf a cls d C f (tVar i))) := by
  intro Φ a dd F σ H ρ De fs d z r ea ed rx e q
  obtain ⟨kds, rfl, rk⟩ := rx
  obtain ⟨v, l, rv⟩ := look_rp rk e
  exact ⟨_, ea, rfl, rfl, dd, fs, v, rfl, ed, l, q v F H r (Same.refl _) rv⟩
theorem su_two {C : Addr} {i : Nat} {f g : Str} : SuF K C i (fun d => (fieldD d f).bind fun x => (fieldD d g).map fun y => .tuple [x, y]) (fun a cls d => tRet (tTup (tCons (tXf a cls d C f (tVar i)) (tCons (tXf a cls d C g (tVar i)) tNil)))) := by
  intro Φ a dd F σ H ρ De fs d z r ea ed rx e q
  obtain ⟨kds, rfl, rk⟩ := rx
  have e : ((fieldD (.dict kds) f).bind fun x => (fieldD (.dict kds) g).map fun y => PyData.tuple [x, y]) = some z := e
  cases e1 : fieldD (.dict kds) f with
  | none => rw [e1] at e; cases e
  | some x =>
    rw [e1] at e
    cases e2 : fieldD (.dict kds) g with
    | none => simp [e2] at e
    | some y =>
      simp [e2] at e
      subst e
      obtain ⟨v, l, rv⟩ := look_rp rk e1
      obtain ⟨w, l2, rw'⟩ := look_rp rk e2
      refine ⟨_, ea, rfl, rfl, dd, fs, v, rfl, ed, l, _, ea, rfl, rfl, dd, fs, w, rfl, ed, l2, by show 2 ≤ sizeLine; rw [sizeLine_eq]; decide, fun p np => ?_⟩
      obtain ⟨r2, s2⟩ := r.alloc (o := .tup [v, w]) np
      exact q _ _ _ r2 s2 (.tup (SqT.of upd_same) (.cons (rv.mono s2) (.cons (rw'.mono s2) .nil)))
theorem su_tag {C : Addr} {i : Nat} {f : Str} {c : Str} : SuF K C i (fun d => (fieldD d f).map fun y => .tuple [.str c, y]) (fun a cls d => tRet (tTup (tCons (tC (.str c)) (tCons (tXf a cls d C f (tVar i)) tNil)))) := by
  intro Φ a dd F σ H ρ De fs d z r ea ed rx e q
  obtain ⟨kds, rfl, rk⟩ := rx
  have e : ((fieldD (.dict kds) f).map fun y => PyData.tuple [.str c, y]) = some z := e
  cases e2 : fieldD (.dict kds) f with
  | none => rw [e2] at e; cases e
  | some y =>
    rw [e2] at e
    cases e
    obtain ⟨w, l2, rw'⟩ := look_rp rk e2
    refine ⟨_, ea, rfl, rfl, dd, fs, w, rfl, ed, l2, by show 2 ≤ sizeLine; rw [sizeLine_eq]; decide, fun p np => ?_⟩
    obtain ⟨r2, s2⟩ := r.alloc (o := .tup [.str c, w]) np
    exact q _ _ _ r2 s2 (.tup (SqT.of upd_same) (.cons (.str _) (.cons (rw'.mono s2) .nil)))
theorem set_no {Φ : Fm} {F H : Hp} {σ : L2.St} {ρ : Env} (r : R K Φ F σ H ρ) {i : Nat} {o : Option V} (n : notIo ρ i = true) : R K Φ F (σ.set i o) H (ρ.set i .no) := by
  refine r.reslot (by rw [List.length_set, List.length_set, r.len]) (fun j s e => ?_) fun a e => ?_
  · rcases getset e with ⟨_, rfl, _⟩ | ⟨z, e'⟩
    · exact .inl rfl
    · exact .inr (.inr ⟨e', List.getElem?_set_ne z⟩)
  · have z := r.io_not n e
    exact ⟨List.getElem?_set_ne z, List.getElem?_set_ne z⟩
theorem shs_tryF {tb : WX → TS} {ts : Addr → Value → Option Addr → TS} {Wout : WX} {c : Str} {C : Addr} {i : Nat} {g : D → Option D} {mb : MS} (hb : ∀ W : WX, ShS K mg (fun σ cls d H => W cls d σ H) (tb W) mb) (gC : mg c = some (.ref C)) (te : PySem.W.exmOne K (.ref C) (.ref C) = some true)
    (hs : SuF K C i g ts) : ShS K mg E (fun D σ H => tb (wAs K (.ref C) i ts Wout D) D σ H) (mTryF c i g mb) := by
  intro Φ F σ H ρ De W r x gg
  refine hb (wAs K (.ref C) i ts Wout De) Φ F σ H ρ De (fun c' d F' ρ' => Same F F' ∧ GoodS K Φ F' De W (if c' = c ∧ i < ρ'.length ∧ notIo ρ' i = true then (match g d with | some z => .rt z (ρ'.set i .no) | none => .stuck) else .stuck)) r ?_ ?_
  · intro c' d ρ' F' σ' H' C' dx fs r' em ex nF n0 rx w
    obtain ⟨sF, w⟩ := w
    split at w
    · rename_i q
      obtain ⟨rfl, hil, ni⟩ := q
      rw [gC] at em
      cases em
      cases eg : g d with
      | none => rw [eg] at w; exact w.elim
      | some z =>
        rw [eg] at w
        refine ⟨true, te, fun _ a na => ?_, fun q => Bool.noConfusion q⟩
        have r2 := set_no (o := some (.ref a)) r' ni
        refine hs Φ a dx F' _ H' _ _ fs d z r2 (by rw [List.getElem?_set_self (by rw [r'.len]; exact hil)]) ex rx eg fun v F2 H2 r3 s3 rv => ?_
        exact w _ v F2 H2 r3 s3 rv
    · exact w.elim
  · unfold mTryF at gg
    cases e : mb ρ with
    | exc c' d ρ' => rw [e] at gg; exact fun F' s => ⟨s, gg.weak s⟩
    | nx ρ' => rw [e] at gg; exact gg
    | rt d ρ' => rw [e] at gg; exact gg
    | bk ρ' => rw [e] at gg; exact gg
    | ct ρ' => rw [e] at gg; exact gg
    | stuck => rw [e] at gg; exact gg
end
end Mi
namespace Mi
open PySem PySem.Spec PyProof.Rows L2
section
variable {K : PySem.W.Frag} {mg : Str → Option Value}
theorem rp_tupK {F : Hp} {a : Addr} {dd : Option Addr} {its : Array Value} {n : Nat} {sl : Array (Option Value)} {xs : List V} {ds : List D} (h : K.lookup a = some ⟨.type "tuple", dd, .seq its n, sl⟩) (hz : its.size ≤ 16777216) (hv : Vals xs its.toList) (r : RpA K F xs ds) : Rp K F (.ref a) (.tuple ds) :=
  .tup (.inr ⟨_, its, n, h, rfl, rfl, by rw [sizeLine_eq]; exact hz, hv⟩) r
/-- what the top has left of an own error's class -/
structure ExcT (K : PySem.W.Frag) (mg : Str → Option Value) (c : Str) (names ps : List Str) (st : Stmt) (qual : Str) (C : Addr) : Prop where
  gC : mg c = some (.ref C)
  T : OexC K C
  no : ∀ f ∈ names, PySem.W.findIn K (.ref C) f = some none
  xf : XfC K C
  te : PySem.W.exmOne K (.ref C) (.ref C) = some true
  ini : ∃ (f : Addr) (fd : FuncData), PySem.W.findIn K (.ref C) "__init__" = some (some (.ref f)) ∧ PySem.W.typeIn K (.ref f) = some (.type "function") ∧ Fun K "__init__" qual st f fd ∧ L2.Binds K fd ps []
theorem exm_self {K : PySem.W.Frag} {S : Addr} (h1 : PySem.W.subIn K (.ref S) (.type "BaseException") = some true) (h2 : PySem.W.isClsIn K S = true) (h3 : PySem.W.typeIn K (.ref S) = some (.type "type")) (h4 : PySem.W.subIn K (.ref S) (.ref S) = some true) :
    PySem.W.exmOne K (.ref S) (.ref S) = some true := by
  have e1 : (PySem.W.subIn K (.ref S) (.type "BaseException") == some true) = true := by rw [h1] <;> rfl
  have e2 : ((PySem.W.clsIn K S).isSome && PySem.W.typeIn K (.ref S) == some (.type "type")) = true := by
    have h2' : (PySem.W.clsIn K S).isSome = true := h2
    rw [h2', h3] <;> rfl
  show (if (PySem.W.subIn K (.ref S) (.type "BaseException") == some true) = true then (if ((PySem.W.clsIn K S).isSome && PySem.W.typeIn K (.ref S) == some (.type "type")) = true then PySem.W.subIn K (.ref S) (.ref S) else none) else none) = some true
  rw [if_pos e1, if_pos e2]
  exact h4
end
end Mi
namespace Mi
open PySem PySem.Spec PyProof.Rows L2
section
variable {K : PySem.W.Frag} {mg : Str → Option Value} {X : Cx} {body : List Stmt} {s1 : TS} {N : List Str} {n : Nat} {f : MS} {vs : List V} {H : Hp} {Q : VK} {Ex : XK}
theorem fin_P (pe : PSs X body s1) (hs : ShS K mg (fun _ => Ex) s1 f) (h : spP K mg n (runP N.length f) vs H Q Ex) (hn : n ≤ N.length) : ∃ t, PSs X body t ∧ t { nx := fun _ H' => Q .non H', rt := Q } (L2.start N vs) H := ⟨s1, pe, body_P hs h hn⟩
theorem fin_I (pe : PSs X body s1) (hs : ShS K mg (fun _ => Ex) s1 f) (h : spI K n (runI N.length f) vs H Q Ex) (hn : n + 1 ≤ N.length) : ∃ t, PSs X body t ∧ t { nx := fun _ H' => Q .non H', rt := Q } (L2.start N vs) H := ⟨s1, pe, body_I hs h hn⟩
theorem fin_F {te : TE} {m : ME} (pe : PSs X body (tRet te)) (hs : ShF K mg (fun _ => Ex) te m) (h : spF K n (runP N.length (mRet m)) vs H Q Ex) (hn : n ≤ N.length) : ∃ t, PSs X body t ∧ t { nx := fun _ H' => Q .non H', rt := Q } (L2.start N vs) H := ⟨_, pe, body_F hs h hn⟩
theorem fin_law (pe : PSs X body s1) (hs : ShS K mg (fun _ => Ex) s1 f) (h : Mi.spLaw K vs H Q Ex) (hn : 1 ≤ N.length) (hf : ∀ ns : List Int, ns.length ≤ 63 → runP N.length f [scr ns] = .ok (.bool true)) : ∃ t, PSs X body t ∧ t { nx := fun _ H' => Q .non H', rt := Q } (L2.start N vs) H := ⟨s1, pe, body_law hs h hn hf⟩
end
end Mi

set_option Elab.async false
set_option linter.all false
set_option maxRecDepth 100000
namespace Mi
open PySem PySem.Spec PyProof.Rows L2
/-! ### what a mirror comes to -/
def Sat (r : Res (D × Env)) (Q : D → Env → Prop) : Prop := ∃ d ρ, r = .ok (d, ρ) ∧ Q d ρ
def SatT (r : Res (Bool × Env)) (Q : Bool → Env → Prop) : Prop := ∃ b ρ, r = .ok (b, ρ) ∧ Q b ρ
def SatA (r : Res (List D × Env)) (Q : List D → Env → Prop) : Prop := ∃ d ρ, r = .ok (d, ρ) ∧ Q d ρ
def SatO (r : Res (Option Int × Env)) (Q : Option Int → Env → Prop) : Prop := ∃ d ρ, r = .ok (d, ρ) ∧ Q d ρ
def SatP (r : Res D) (Q : D → Prop) : Prop := ∃ d, r = .ok d ∧ Q d
def SatI (r : Res (D × D)) (Q : D → D → Prop) : Prop := ∃ d e, r = .ok (d, e) ∧ Q d e
def SatS (o : Out) (N : Env → Prop) (Rt : D → Env → Prop) (B C : Env → Prop) (Xp : Str → D → Env → Prop) : Prop := match o with
  | .exc c d ρ => Xp c d ρ
  | .nx ρ => N ρ
  | .rt d ρ => Rt d ρ
  | .bk ρ => B ρ
  | .ct ρ => C ρ
  | _ => False
/-- the value of an operator by values -/
def VAL (o : Option D) (Q : D → Prop) : Prop := ∃ d, o = some d ∧ Q d
def LK (ρ : Env) (i : Nat) (s : Sl) : Prop := ρ[i]? = some s
def SETS (ρ : Env) (N : Env → Prop) : Prop := N ρ
def TG (o : Option Env) (N : Env → Prop) : Prop := ∃ ρ, o = some ρ ∧ N ρ
theorem st0 { z y : Sl} {r : Env} {N : Env → Prop} (q : N (y :: r)) : SETS (List.set (z :: r) 0 y) N := q
theorem lk0 { y : Sl} {r : Env} : LK (y :: r) 0 y := rfl
theorem st1 {x0 z y : Sl} {r : Env} {N : Env → Prop} (q : N (x0 :: y :: r)) : SETS (List.set (x0 :: z :: r) 1 y) N := q
theorem lk1 {x0 y : Sl} {r : Env} : LK (x0 :: y :: r) 1 y := rfl
theorem st2 {x0 x1 z y : Sl} {r : Env} {N : Env → Prop} (q : N (x0 :: x1 :: y :: r)) : SETS (List.set (x0 :: x1 :: z :: r) 2 y) N := q
theorem lk2 {x0 x1 y : Sl} {r : Env} : LK (x0 :: x1 :: y :: r) 2 y := rfl
theorem st3 {x0 x1 x2 z y : Sl} {r : Env} {N : Env → Prop} (q : N (x0 :: x1 :: x2 :: y :: r)) : SETS (List.set (x0 :: x1 :: x2 :: z :: r) 3 y) N := q
theorem lk3 {x0 x1 x2 y : Sl} {r : Env} : LK (x0 :: x1 :: x2 :: y :: r) 3 y := rfl
theorem st4 {x0 x1 x2 x3 z y : Sl} {r : Env} {N : Env → Prop} (q : N (x0 :: x1 :: x2 :: x3 :: y :: r)) : SETS (List.set (x0 :: x1 :: x2 :: x3 :: z :: r) 4 y) N := q
theorem lk4 {x0 x1 x2 x3 y : Sl} {r : Env} : LK (x0 :: x1 :: x2 :: x3 :: y :: r) 4 y := rfl
theorem st5 {x0 x1 x2 x3 x4 z y : Sl} {r : Env} {N : Env → Prop} (q : N (x0 :: x1 :: x2 :: x3 :: x4 :: y :: r)) : SETS (List.set (x0 :: x1 :: x2 :: x3 :: x4 :: z :: r) 5 y) N := q
theorem lk5 {x0 x1 x2 x3 x4 y : Sl} {r : Env} : LK (x0 :: x1 :: x2 :: x3 :: x4 :: y :: r) 5 y := rfl
theorem st6 {x0 x1 x2 x3 x4 x5 z y : Sl} {r : Env} {N : Env → Prop} (q : N (x0 :: x1 :: x2 :: x3 :: x4 :: x5 :: y :: r)) : SETS (List.set (x0 :: x1 :: x2 :: x3 :: x4 :: x5 :: z :: r) 6 y) N := q
theorem lk6 {x0 x1 x2 x3 x4 x5 y : Sl} {r : Env} : LK (x0 :: x1 :: x2 :: x3 :: x4 :: x5 :: y :: r) 6 y := rfl
theorem st7 {x0 x1 x2 x3 x4 x5 x6 z y : Sl} {r : Env} {N : Env → Prop} (q : N (x0 :: x1 :: x2 :: x3 :: x4 :: x5 :: x6 :: y :: r)) : SETS (List.set (x0 :: x1 :: x2 :: x3 :: x4 :: x5 :: x6 :: z :: r) 7 y) N := q
theorem lk7 {x0 x1 x2 x3 x4 x5 x6 y : Sl} {r : Env} : LK (x0 :: x1 :: x2 :: x3 :: x4 :: x5 :: x6 :: y :: r) 7 y := rfl
theorem st8 {x0 x1 x2 x3 x4 x5 x6 x7 z y : Sl} {r : Env} {N : Env → Prop} (q : N (x0 :: x1 :: x2 :: x3 :: x4 :: x5 :: x6 :: x7 :: y :: r)) : SETS (List.set (x0 :: x1 :: x2 :: x3 :: x4 :: x5 :: x6 :: x7 :: z :: r) 8 y) N := q
theorem lk8 {x0 x1 x2 x3 x4 x5 x6 x7 y : Sl} {r : Env} : LK (x0 :: x1 :: x2 :: x3 :: x4 :: x5 :: x6 :: x7 :: y :: r) 8 y := rfl
theorem st9 {x0 x1 x2 x3 x4 x5 x6 x7 x8 z y : Sl} {r : Env} {N : Env → Prop} (q : N (x0 :: x1 :: x2 :: x3 :: x4 :: x5 :: x6 :: x7 :: x8 :: y :: r)) : SETS (List.set (x0 :: x1 :: x2 :: x3 :: x4 :: x5 :: x6 :: x7 :: x8 :: z :: r) 9 y) N := q
theorem lk9 {x0 x1 x2 x3 x4 x5 x6 x7 x8 y : Sl} {r : Env} : LK (x0 :: x1 :: x2 :: x3 :: x4 :: x5 :: x6 :: x7 :: x8 :: y :: r) 9 y := rfl
theorem st10 {x0 x1 x2 x3 x4 x5 x6 x7 x8 x9 z y : Sl} {r : Env} {N : Env → Prop} (q : N (x0 :: x1 :: x2 :: x3 :: x4 :: x5 :: x6 :: x7 :: x8 :: x9 :: y :: r)) : SETS (List.set (x0 :: x1 :: x2 :: x3 :: x4 :: x5 :: x6 :: x7 :: x8 :: x9 :: z :: r) 10 y) N := q
theorem lk10 {x0 x1 x2 x3 x4 x5 x6 x7 x8 x9 y : Sl} {r : Env} : LK (x0 :: x1 :: x2 :: x3 :: x4 :: x5 :: x6 :: x7 :: x8 :: x9 :: y :: r) 10 y := rfl
theorem st11 {x0 x1 x2 x3 x4 x5 x6 x7 x8 x9 x10 z y : Sl} {r : Env} {N : Env → Prop} (q : N (x0 :: x1 :: x2 :: x3 :: x4 :: x5 :: x6 :: x7 :: x8 :: x9 :: x10 :: y :: r)) : SETS (List.set (x0 :: x1 :: x2 :: x3 :: x4 :: x5 :: x6 :: x7 :: x8 :: x9 :: x10 :: z :: r) 11 y) N := q
theorem lk11 {x0 x1 x2 x3 x4 x5 x6 x7 x8 x9 x10 y : Sl} {r : Env} : LK (x0 :: x1 :: x2 :: x3 :: x4 :: x5 :: x6 :: x7 :: x8 :: x9 :: x10 :: y :: r) 11 y := rfl
theorem st12 {x0 x1 x2 x3 x4 x5 x6 x7 x8 x9 x10 x11 z y : Sl} {r : Env} {N : Env → Prop} (q : N (x0 :: x1 :: x2 :: x3 :: x4 :: x5 :: x6 :: x7 :: x8 :: x9 :: x10 :: x11 :: y :: r)) : SETS (List.set (x0 :: x1 :: x2 :: x3 :: x4 :: x5 :: x6 :: x7 :: x8 :: x9 :: x10 :: x11 :: z :: r) 12 y) N := q
theorem lk12 {x0 x1 x2 x3 x4 x5 x6 x7 x8 x9 x10 x11 y : Sl} {r : Env} : LK (x0 :: x1 :: x2 :: x3 :: x4 :: x5 :: x6 :: x7 :: x8 :: x9 :: x10 :: x11 :: y :: r) 12 y := rfl
theorem st13 {x0 x1 x2 x3 x4 x5 x6 x7 x8 x9 x10 x11 x12 z y : Sl} {r : Env} {N : Env → Prop} (q : N (x0 :: x1 :: x2 :: x3 :: x4 :: x5 :: x6 :: x7 :: x8 :: x9 :: x10 :: x11 :: x12 :: y :: r)) : SETS (List.set (x0 :: x1 :: x2 :: x3 :: x4 :: x5 :: x6 :: x7 :: x8 :: x9 :: x10 :: x11 :: x12 :: z :: r) 13 y) N := q
theorem lk13 {x0 x1 x2 x3 x4 x5 x6 x7 x8 x9 x10 x11 x12 y : Sl} {r : Env} : LK (x0 :: x1 :: x2 :: x3 :: x4 :: x5 :: x6 :: x7 :: x8 :: x9 :: x10 :: x11 :: x12 :: y :: r) 13 y := rfl
theorem st14 {x0 x1 x2 x3 x4 x5 x6 x7 x8 x9 x10 x11 x12 x13 z y : Sl} {r : Env} {N : Env → Prop} (q : N (x0 :: x1 :: x2 :: x3 :: x4 :: x5 :: x6 :: x7 :: x8 :: x9 :: x10 :: x11 :: x12 :: x13 :: y :: r)) : SETS (List.set (x0 :: x1 :: x2 :: x3 :: x4 :: x5 :: x6 :: x7 :: x8 :: x9 :: x10 :: x11 :: x12 :: x13 :: z :: r) 14 y) N := q
theorem lk14 {x0 x1 x2 x3 x4 x5 x6 x7 x8 x9 x10 x11 x12 x13 y : Sl} {r : Env} : LK (x0 :: x1 :: x2 :: x3 :: x4 :: x5 :: x6 :: x7 :: x8 :: x9 :: x10 :: x11 :: x12 :: x13 :: y :: r) 14 y := rfl
theorem st15 {x0 x1 x2 x3 x4 x5 x6 x7 x8 x9 x10 x11 x12 x13 x14 z y : Sl} {r : Env} {N : Env → Prop} (q : N (x0 :: x1 :: x2 :: x3 :: x4 :: x5 :: x6 :: x7 :: x8 :: x9 :: x10 :: x11 :: x12 :: x13 :: x14 :: y :: r)) : SETS (List.set (x0 :: x1 :: x2 :: x3 :: x4 :: x5 :: x6 :: x7 :: x8 :: x9 :: x10 :: x11 :: x12 :: x13 :: x14 :: z :: r) 15 y) N := q
theorem lk15 {x0 x1 x2 x3 x4 x5 x6 x7 x8 x9 x10 x11 x12 x13 x14 y : Sl} {r : Env} : LK (x0 :: x1 :: x2 :: x3 :: x4 :: x5 :: x6 :: x7 :: x8 :: x9 :: x10 :: x11 :: x12 :: x13 :: x14 :: y :: r) 15 y := rfl
theorem st16 {x0 x1 x2 x3 x4 x5 x6 x7 x8 x9 x10 x11 x12 x13 x14 x15 z y : Sl} {r : Env} {N : Env → Prop} (q : N (x0 :: x1 :: x2 :: x3 :: x4 :: x5 :: x6 :: x7 :: x8 :: x9 :: x10 :: x11 :: x12 :: x13 :: x14 :: x15 :: y :: r)) : SETS (List.set (x0 :: x1 :: x2 :: x3 :: x4 :: x5 :: x6 :: x7 :: x8 :: x9 :: x10 :: x11 :: x12 :: x13 :: x14 :: x15 :: z :: r) 16 y) N := q
theorem lk16 {x0 x1 x2 x3 x4 x5 x6 x7 x8 x9 x10 x11 x12 x13 x14 x15 y : Sl} {r : Env} : LK (x0 :: x1 :: x2 :: x3 :: x4 :: x5 :: x6 :: x7 :: x8 :: x9 :: x10 :: x11 :: x12 :: x13 :: x14 :: x15 :: y :: r) 16 y := rfl
theorem st17 {x0 x1 x2 x3 x4 x5 x6 x7 x8 x9 x10 x11 x12 x13 x14 x15 x16 z y : Sl} {r : Env} {N : Env → Prop} (q : N (x0 :: x1 :: x2 :: x3 :: x4 :: x5 :: x6 :: x7 :: x8 :: x9 :: x10 :: x11 :: x12 :: x13 :: x14 :: x15 :: x16 :: y :: r)) : SETS (List.set (x0 :: x1 :: x2 :: x3 :: x4 :: x5 :: x6 :: x7 :: x8 :: x9 :: x10 :: x11 :: x12 :: x13 :: x14 :: x15 :: x16 :: z :: r) 17 y) N := q
theorem lk17 {x0 x1 x2 x3 x4 x5 x6 x7 x8 x9 x10 x11 x12 x13 x14 x15 x16 y : Sl} {r : Env} : LK (x0 :: x1 :: x2 :: x3 :: x4 :: x5 :: x6 :: x7 :: x8 :: x9 :: x10 :: x11 :: x12 :: x13 :: x14 :: x15 :: x16 :: y :: r) 17 y := rfl
theorem st18 {x0 x1 x2 x3 x4 x5 x6 x7 x8 x9 x10 x11 x12 x13 x14 x15 x16 x17 z y : Sl} {r : Env} {N : Env → Prop} (q : N (x0 :: x1 :: x2 :: x3 :: x4 :: x5 :: x6 :: x7 :: x8 :: x9 :: x10 :: x11 :: x12 :: x13 :: x14 :: x15 :: x16 :: x17 :: y :: r)) : SETS (List.set (x0 :: x1 :: x2 :: x3 :: x4 :: x5 :: x6 :: x7 :: x8 :: x9 :: x10 :: x11 :: x12 :: x13 :: x14 :: x15 :: x16 :: x17 :: z :: r) 18 y) N := q
theorem lk18 {x0 x1 x2 x3 x4 x5 x6 x7 x8 x9 x10 x11 x12 x13 x14 x15 x16 x17 y : Sl} {r : Env} : LK (x0 :: x1 :: x2 :: x3 :: x4 :: x5 :: x6 :: x7 :: x8 :: x9 :: x10 :: x11 :: x12 :: x13 :: x14 :: x15 :: x16 :: x17 :: y :: r) 18 y := rfl
theorem st19 {x0 x1 x2 x3 x4 x5 x6 x7 x8 x9 x10 x11 x12 x13 x14 x15 x16 x17 x18 z y : Sl} {r : Env} {N : Env → Prop} (q : N (x0 :: x1 :: x2 :: x3 :: x4 :: x5 :: x6 :: x7 :: x8 :: x9 :: x10 :: x11 :: x12 :: x13 :: x14 :: x15 :: x16 :: x17 :: x18 :: y :: r)) : SETS (List.set (x0 :: x1 :: x2 :: x3 :: x4 :: x5 :: x6 :: x7 :: x8 :: x9 :: x10 :: x11 :: x12 :: x13 :: x14 :: x15 :: x16 :: x17 :: x18 :: z :: r) 19 y) N := q
theorem lk19 {x0 x1 x2 x3 x4 x5 x6 x7 x8 x9 x10 x11 x12 x13 x14 x15 x16 x17 x18 y : Sl} {r : Env} : LK (x0 :: x1 :: x2 :: x3 :: x4 :: x5 :: x6 :: x7 :: x8 :: x9 :: x10 :: x11 :: x12 :: x13 :: x14 :: x15 :: x16 :: x17 :: x18 :: y :: r) 19 y := rfl
theorem st20 {x0 x1 x2 x3 x4 x5 x6 x7 x8 x9 x10 x11 x12 x13 x14 x15 x16 x17 x18 x19 z y : Sl} {r : Env} {N : Env → Prop} (q : N (x0 :: x1 :: x2 :: x3 :: x4 :: x5 :: x6 :: x7 :: x8 :: x9 :: x10 :: x11 :: x12 :: x13 :: x14 :: x15 :: x16 :: x17 :: x18 :: x19 :: y :: r)) : SETS (List.set (x0 :: x1 :: x2 :: x3 :: x4 :: x5 :: x6 :: x7 :: x8 :: x9 :: x10 :: x11 :: x12 :: x13 :: x14 :: x15 :: x16 :: x17 :: x18 :: x19 :: z :: r) 20 y) N := q
theorem lk20 {x0 x1 x2 x3 x4 x5 x6 x7 x8 x9 x10 x11 x12 x13 x14 x15 x16 x17 x18 x19 y : Sl} {r : Env} : LK (x0 :: x1 :: x2 :: x3 :: x4 :: x5 :: x6 :: x7 :: x8 :: x9 :: x10 :: x11 :: x12 :: x13 :: x14 :: x15 :: x16 :: x17 :: x18 :: x19 :: y :: r) 20 y := rfl
theorem st21 {x0 x1 x2 x3 x4 x5 x6 x7 x8 x9 x10 x11 x12 x13 x14 x15 x16 x17 x18 x19 x20 z y : Sl} {r : Env} {N : Env → Prop} (q : N (x0 :: x1 :: x2 :: x3 :: x4 :: x5 :: x6 :: x7 :: x8 :: x9 :: x10 :: x11 :: x12 :: x13 :: x14 :: x15 :: x16 :: x17 :: x18 :: x19 :: x20 :: y :: r)) : SETS (List.set (x0 :: x1 :: x2 :: x3 :: x4 :: x5 :: x6 :: x7 :: x8 :: x9 :: x10 :: x11 :: x12 :: x13 :: x14 :: x15 :: x16 :: x17 :: x18 :: x19 :: x20 :: z :: r) 21 y) N := q
theorem lk21 {x0 x1 x2 x3 x4 x5 x6 x7 x8 x9 x10 x11 x12 x13 x14 x15 x16 x17 x18 x19 x20 y : Sl} {r : Env} : LK (x0 :: x1 :: x2 :: x3 :: x4 :: x5 :: x6 :: x7 :: x8 :: x9 :: x10 :: x11 :: x12 :: x13 :: x14 :: x15 :: x16 :: x17 :: x18 :: x19 :: x20 :: y :: r) 21 y := rfl
theorem st22 {x0 x1 x2 x3 x4 x5 x6 x7 x8 x9 x10 x11 x12 x13 x14 x15 x16 x17 x18 x19 x20 x21 z y : Sl} {r : Env} {N : Env → Prop} (q : N (x0 :: x1 :: x2 :: x3 :: x4 :: x5 :: x6 :: x7 :: x8 :: x9 :: x10 :: x11 :: x12 :: x13 :: x14 :: x15 :: x16 :: x17 :: x18 :: x19 :: x20 :: x21 :: y :: r)) : SETS (List.set (x0 :: x1 :: x2 :: x3 :: x4 :: x5 :: x6 :: x7 :: x8 :: x9 :: x10 :: x11 :: x12 :: x13 :: x14 :: x15 :: x16 :: x17 :: x18 :: x19 :: x20 :: x21 :: z :: r) 22 y) N := q
theorem lk22 {x0 x1 x2 x3 x4 x5 x6 x7 x8 x9 x10 x11 x12 x13 x14 x15 x16 x17 x18 x19 x20 x21 y : Sl} {r : Env} : LK (x0 :: x1 :: x2 :: x3 :: x4 :: x5 :: x6 :: x7 :: x8 :: x9 :: x10 :: x11 :: x12 :: x13 :: x14 :: x15 :: x16 :: x17 :: x18 :: x19 :: x20 :: x21 :: y :: r) 22 y := rfl
theorem st23 {x0 x1 x2 x3 x4 x5 x6 x7 x8 x9 x10 x11 x12 x13 x14 x15 x16 x17 x18 x19 x20 x21 x22 z y : Sl} {r : Env} {N : Env → Prop} (q : N (x0 :: x1 :: x2 :: x3 :: x4 :: x5 :: x6 :: x7 :: x8 :: x9 :: x10 :: x11 :: x12 :: x13 :: x14 :: x15 :: x16 :: x17 :: x18 :: x19 :: x20 :: x21 :: x22 :: y :: r)) : SETS (List.set (x0 :: x1 :: x2 :: x3 :: x4 :: x5 :: x6 :: x7 :: x8 :: x9 :: x10 :: x11 :: x12 :: x13 :: x14 :: x15 :: x16 :: x17 :: x18 :: x19 :: x20 :: x21 :: x22 :: z :: r) 23 y) N := q
theorem lk23 {x0 x1 x2 x3 x4 x5 x6 x7 x8 x9 x10 x11 x12 x13 x14 x15 x16 x17 x18 x19 x20 x21 x22 y : Sl} {r : Env} : LK (x0 :: x1 :: x2 :: x3 :: x4 :: x5 :: x6 :: x7 :: x8 :: x9 :: x10 :: x11 :: x12 :: x13 :: x14 :: x15 :: x16 :: x17 :: x18 :: x19 :: x20 :: x21 :: x22 :: y :: r) 23 y := rfl
theorem st24 {x0 x1 x2 x3 x4 x5 x6 x7 x8 x9 x10 x11 x12 x13 x14 x15 x16 x17 x18 x19 x20 x21 x22 x23 z y : Sl} {r : Env} {N : Env → Prop} (q : N (x0 :: x1 :: x2 :: x3 :: x4 :: x5 :: x6 :: x7 :: x8 :: x9 :: x10 :: x11 :: x12 :: x13 :: x14 :: x15 :: x16 :: x17 :: x18 :: x19 :: x20 :: x21 :: x22 :: x23 :: y :: r)) : SETS (List.set (x0 :: x1 :: x2 :: x3 :: x4 :: x5 :: x6 :: x7 :: x8 :: x9 :: x10 :: x11 :: x12 :: x13 :: x14 :: x15 :: x16 :: x17 :: x18 :: x19 :: x20 :: x21 :: x22 :: x23 :: z :: r) 24 y) N := q
theorem lk24 {x0 x1 x2 x3 x4 x5 x6 x7 x8 x9 x10 x11 x12 x13 x14 x15 x16 x17 x18 x19 x20 x21 x22 x23 y : Sl} {r : Env} : LK (x0 :: x1 :: x2 :: x3 :: x4 :: x5 :: x6 :: x7 :: x8 :: x9 :: x10 :: x11 :: x12 :: x13 :: x14 :: x15 :: x16 :: x17 :: x18 :: x19 :: x20 :: x21 :: x22 :: x23 :: y :: r) 24 y := rfl
theorem st25 {x0 x1 x2 x3 x4 x5 x6 x7 x8 x9 x10 x11 x12 x13 x14 x15 x16 x17 x18 x19 x20 x21 x22 x23 x24 z y : Sl} {r : Env} {N : Env → Prop} (q : N (x0 :: x1 :: x2 :: x3 :: x4 :: x5 :: x6 :: x7 :: x8 :: x9 :: x10 :: x11 :: x12 :: x13 :: x14 :: x15 :: x16 :: x17 :: x18 :: x19 :: x20 :: x21 :: x22 :: x23 :: x24 :: y :: r)) : SETS (List.set (x0 :: x1 :: x2 :: x3 :: x4 :: x5 :: x6 :: x7 :: x8 :: x9 :: x10 :: x11 :: x12 :: x13 :: x14 :: x15 :: x16 :: x17 :: x18 :: x19 :: x20 :: x21 :: x22 :: x23 :: x24 :: z :: r) 25 y) N := q
theorem lk25 {x0 x1 x2 x3 x4 x5 x6 x7 x8 x9 x10 x11 x12 x13 x14 x15 x16 x17 x18 x19 x20 x21 x22 x23 x24 y : Sl} {r : Env} : LK (x0 :: x1 :: x2 :: x3 :: x4 :: x5 :: x6 :: x7 :: x8 :: x9 :: x10 :: x11 :: x12 :: x13 :: x14 :: x15 :: x16 :: x17 :: x18 :: x19 :: x20 :: x21 :: x22 :: x23 :: x24 :: y :: r) 25 y := rfl
theorem st26 {x0 x1 x2 x3 x4 x5 x6 x7 x8 x9 x10 x11 x12 x13 x14 x15 x16 x17 x18 x19 x20 x21 x22 x23 x24 x25 z y : Sl} {r : Env} {N : Env → Prop} (q : N (x0 :: x1 :: x2 :: x3 :: x4 :: x5 :: x6 :: x7 :: x8 :: x9 :: x10 :: x11 :: x12 :: x13 :: x14 :: x15 :: x16 :: x17 :: x18 :: x19 :: x20 :: x21 :: x22 :: x23 :: x24 :: x25 :: y :: r)) : SETS (List.set (x0 :: x1 :: x2 :: x3 :: x4 :: x5 :: x6 :: x7 :: x8 :: x9 :: x10 :: x11 :: x12 :: x13 :: x14 :: x15 :: x16 :: x17 :: x18 :: x19 :: x20 :: x21 :: x22 :: x23 :: x24 :: x25 :: z :: r) 26 y) N := q
theorem lk26 {x0 x1 x2 x3 x4 x5 x6 x7 x8 x9 x10 x11 x12 x13 x14 x15 x16 x17 x18 x19 x20 x21 x22 x23 x24 x25 y : Sl} {r : Env} : LK (x0 :: x1 :: x2 :: x3 :: x4 :: x5 :: x6 :: x7 :: x8 :: x9 :: x10 :: x11 :: x12 :: x13 :: x14 :: x15 :: x16 :: x17 :: x18 :: x19 :: x20 :: x21 :: x22 :: x23 :: x24 :: x25 :: y :: r) 26 y := rfl
theorem st27 {x0 x1 x2 x3 x4 x5 x6 x7 x8 x9 x10 x11 x12 x13 x14 x15 x16 x17 x18 x19 x20 x21 x22 x23 x24 x25 x26 z y : Sl} {r : Env} {N : Env → Prop} (q : N (x0 :: x1 :: x2 :: x3 :: x4 :: x5 :: x6 :: x7 :: x8 :: x9 :: x10 :: x11 :: x12 :: x13 :: x14 :: x15 :: x16 :: x17 :: x18 :: x19 :: x20 :: x21 :: x22 :: x23 :: x24 :: x25 :: x26 :: y :: r)) : SETS (List.set (x0 :: x1 :: x2 :: x3 :: x4 :: x5 :: x6 :: x7 :: x8 :: x9 :: x10 :: x11 :: x12 :: x13 :: x14 :: x15 :: x16 :: x17 :: x18 :: x19 :: x20 :: x21 :: x22 :: x23 :: x24 :: x25 :: x26 :: z :: r) 27 y) N := q
theorem lk27 {x0 x1 x2 x3 x4 x5 x6 x7 x8 x9 x10 x11 x12 x13 x14 x15 x16 x17 x18 x19 x20 x21 x22 x23 x24 x25 x26 y : Sl} {r : Env} : LK (x0 :: x1 :: x2 :: x3 :: x4 :: x5 :: x6 :: x7 :: x8 :: x9 :: x10 :: x11 :: x12 :: x13 :: x14 :: x15 :: x16 :: x17 :: x18 :: x19 :: x20 :: x21 :: x22 :: x23 :: x24 :: x25 :: x26 :: y :: r) 27 y := rfl
theorem st28 {x0 x1 x2 x3 x4 x5 x6 x7 x8 x9 x10 x11 x12 x13 x14 x15 x16 x17 x18 x19 x20 x21 x22 x23 x24 x25 x26 x27 z y : Sl} {r : Env} {N : Env → Prop} (q : N (x0 :: x1 :: x2 :: x3 :: x4 :: x5 :: x6 :: x7 :: x8 :: x9 :: x10 :: x11 :: x12 :: x13 :: x14 :: x15 :: x16 :: x17 :: x18 :: x19 :: x20 :: x21 :: x22 :: x23 :: x24 :: x25 :: x26 :: x27 :: y :: r)) : SETS (List.set (x0 :: x1 :: x2 :: x3 :: x4 :: x5 :: x6 :: x7 :: x8 :: x9 :: x10 :: x11 :: x12 :: x13 :: x14 :: x15 :: x16 :: x17 :: x18 :: x19 :: x20 :: x21 :: x22 :: x23 :: x24 :: x25 :: x26 :: x27 :: z :: r) 28 y) N := q
theorem lk28 {x0 x1 x2 x3 x4 x5 x6 x7 x8 x9 x10 x11 x12 x13 x14 x15 x16 x17 x18 x19 x20 x21 x22 x23 x24 x25 x26 x27 y : Sl} {r : Env} : LK (x0 :: x1 :: x2 :: x3 :: x4 :: x5 :: x6 :: x7 :: x8 :: x9 :: x10 :: x11 :: x12 :: x13 :: x14 :: x15 :: x16 :: x17 :: x18 :: x19 :: x20 :: x21 :: x22 :: x23 :: x24 :: x25 :: x26 :: x27 :: y :: r) 28 y := rfl
theorem st29 {x0 x1 x2 x3 x4 x5 x6 x7 x8 x9 x10 x11 x12 x13 x14 x15 x16 x17 x18 x19 x20 x21 x22 x23 x24 x25 x26 x27 x28 z y : Sl} {r : Env} {N : Env → Prop} (q : N (x0 :: x1 :: x2 :: x3 :: x4 :: x5 :: x6 :: x7 :: x8 :: x9 :: x10 :: x11 :: x12 :: x13 :: x14 :: x15 :: x16 :: x17 :: x18 :: x19 :: x20 :: x21 :: x22 :: x23 :: x24 :: x25 :: x26 :: x27 :: x28 :: y :: r)) : SETS (List.set (x0 :: x1 :: x2 :: x3 :: x4 :: x5 :: x6 :: x7 :: x8 :: x9 :: x10 :: x11 :: x12 :: x13 :: x14 :: x15 :: x16 :: x17 :: x18 :: x19 :: x20 :: x21 :: x22 :: x23 :: x24 :: x25 :: x26 :: x27 :: x28 :: z :: r) 29 y) N := q
theorem lk29 {x0 x1 x2 x3 x4 x5 x6 x7 x8 x9 x10 x11 x12 x13 x14 x15 x16 x17 x18 x19 x20 x21 x22 x23 x24 x25 x26 x27 x28 y : Sl} {r : Env} : LK (x0 :: x1 :: x2 :: x3 :: x4 :: x5 :: x6 :: x7 :: x8 :: x9 :: x10 :: x11 :: x12 :: x13 :: x14 :: x15 :: x16 :: x17 :: x18 :: x19 :: x20 :: x21 :: x22 :: x23 :: x24 :: x25 :: x26 :: x27 :: x28 :: y :: r) 29 y := rfl
theorem st30 {x0 x1 x2 x3 x4 x5 x6 x7 x8 x9 x10 x11 x12 x13 x14 x15 x16 x17 x18 x19 x20 x21 x22 x23 x24 x25 x26 x27 x28 x29 z y : Sl} {r : Env} {N : Env → Prop} (q : N (x0 :: x1 :: x2 :: x3 :: x4 :: x5 :: x6 :: x7 :: x8 :: x9 :: x10 :: x11 :: x12 :: x13 :: x14 :: x15 :: x16 :: x17 :: x18 :: x19 :: x20 :: x21 :: x22 :: x23 :: x24 :: x25 :: x26 :: x27 :: x28 :: x29 :: y :: r)) : SETS (List.set (x0 :: x1 :: x2 :: x3 :: x4 :: x5 :: x6 :: x7 :: x8 :: x9 :: x10 :: x11 :: x12 :: x13 :: x14 :: x15 :: x16 :: x17 :: x18 :: x19 :: x20 :: x21 :: x22 :: x23 :: x24 :: x25 :: x26 :: x27 :: x28 :: x29 :: z :: r) 30 y) N := q
theorem lk30 {x0 x1 x2 x3 x4 x5 x6 x7 x8 x9 x10 x11 x12 x13 x14 x15 x16 x17 x18 x19 x20 x21 x22 x23 x24 x25 x26 x27 x28 x29 y : Sl} {r : Env} : LK (x0 :: x1 :: x2 :: x3 :: x4 :: x5 :: x6 :: x7 :: x8 :: x9 :: x10 :: x11 :: x12 :: x13 :: x14 :: x15 :: x16 :: x17 :: x18 :: x19 :: x20 :: x21 :: x22 :: x23 :: x24 :: x25 :: x26 :: x27 :: x28 :: x29 :: y :: r) 30 y := rfl
theorem st31 {x0 x1 x2 x3 x4 x5 x6 x7 x8 x9 x10 x11 x12 x13 x14 x15 x16 x17 x18 x19 x20 x21 x22 x23 x24 x25 x26 x27 x28 x29 x30 z y : Sl} {r : Env} {N : Env → Prop} (q : N (x0 :: x1 :: x2 :: x3 :: x4 :: x5 :: x6 :: x7 :: x8 :: x9 :: x10 :: x11 :: x12 :: x13 :: x14 :: x15 :: x16 :: x17 :: x18 :: x19 :: x20 :: x21 :: x22 :: x23 :: x24 :: x25 :: x26 :: x27 :: x28 :: x29 :: x30 :: y :: r)) : SETS (List.set (x0 :: x1 :: x2 :: x3 :: x4 :: x5 :: x6 :: x7 :: x8 :: x9 :: x10 :: x11 :: x12 :: x13 :: x14 :: x15 :: x16 :: x17 :: x18 :: x19 :: x20 :: x21 :: x22 :: x23 :: x24 :: x25 :: x26 :: x27 :: x28 :: x29 :: x30 :: z :: r) 31 y) N := q
theorem lk31 {x0 x1 x2 x3 x4 x5 x6 x7 x8 x9 x10 x11 x12 x13 x14 x15 x16 x17 x18 x19 x20 x21 x22 x23 x24 x25 x26 x27 x28 x29 x30 y : Sl} {r : Env} : LK (x0 :: x1 :: x2 :: x3 :: x4 :: x5 :: x6 :: x7 :: x8 :: x9 :: x10 :: x11 :: x12 :: x13 :: x14 :: x15 :: x16 :: x17 :: x18 :: x19 :: x20 :: x21 :: x22 :: x23 :: x24 :: x25 :: x26 :: x27 :: x28 :: x29 :: x30 :: y :: r) 31 y := rfl
theorem st32 {x0 x1 x2 x3 x4 x5 x6 x7 x8 x9 x10 x11 x12 x13 x14 x15 x16 x17 x18 x19 x20 x21 x22 x23 x24 x25 x26 x27 x28 x29 x30 x31 z y : Sl} {r : Env} {N : Env → Prop} (q : N (x0 :: x1 :: x2 :: x3 :: x4 :: x5 :: x6 :: x7 :: x8 :: x9 :: x10 :: x11 :: x12 :: x13 :: x14 :: x15 :: x16 :: x17 :: x18 :: x19 :: x20 :: x21 :: x22 :: x23 :: x24 :: x25 :: x26 :: x27 :: x28 :: x29 :: x30 :: x31 :: y :: r)) : SETS (List.set (x0 :: x1 :: x2 :: x3 :: x4 :: x5 :: x6 :: x7 :: x8 :: x9 :: x10 :: x11 :: x12 :: x13 :: x14 :: x15 :: x16 :: x17 :: x18 :: x19 :: x20 :: x21 :: x22 :: x23 :: x24 :: x25 :: x26 :: x27 :: x28 :: x29 :: x30 :: x31 :: z :: r) 32 y) N := q
theorem lk32 {x0 x1 x2 x3 x4 x5 x6 x7 x8 x9 x10 x11 x12 x13 x14 x15 x16 x17 x18 x19 x20 x21 x22 x23 x24 x25 x26 x27 x28 x29 x30 x31 y : Sl} {r : Env} : LK (x0 :: x1 :: x2 :: x3 :: x4 :: x5 :: x6 :: x7 :: x8 :: x9 :: x10 :: x11 :: x12 :: x13 :: x14 :: x15 :: x16 :: x17 :: x18 :: x19 :: x20 :: x21 :: x22 :: x23 :: x24 :: x25 :: x26 :: x27 :: x28 :: x29 :: x30 :: x31 :: y :: r) 32 y := rfl
theorem st33 {x0 x1 x2 x3 x4 x5 x6 x7 x8 x9 x10 x11 x12 x13 x14 x15 x16 x17 x18 x19 x20 x21 x22 x23 x24 x25 x26 x27 x28 x29 x30 x31 x32 z y : Sl} {r : Env} {N : Env → Prop} (q : N (x0 :: x1 :: x2 :: x3 :: x4 :: x5 :: x6 :: x7 :: x8 :: x9 :: x10 :: x11 :: x12 :: x13 :: x14 :: x15 :: x16 :: x17 :: x18 :: x19 :: x20 :: x21 :: x22 :: x23 :: x24 :: x25 :: x26 :: x27 :: x28 :: x29 :: x30 :: x31 :: x32 :: y :: r)) : SETS (List.set (x0 :: x1 :: x2 :: x3 :: x4 :: x5 :: x6 :: x7 :: x8 :: x9 :: x10 :: x11 :: x12 :: x13 :: x14 :: x15 :: x16 :: x17 :: x18 :: x19 :: x20 :: x21 :: x22 :: x23 :: x24 :: x25 :: x26 :: x27 :: x28 :: x29 :: x30 :: x31 :: x32 :: z :: r) 33 y) N := q
theorem lk33 {x0 x1 x2 x3 x4 x5 x6 x7 x8 x9 x10 x11 x12 x13 x14 x15 x16 x17 x18 x19 x20 x21 x22 x23 x24 x25 x26 x27 x28 x29 x30 x31 x32 y : Sl} {r : Env} : LK (x0 :: x1 :: x2 :: x3 :: x4 :: x5 :: x6 :: x7 :: x8 :: x9 :: x10 :: x11 :: x12 :: x13 :: x14 :: x15 :: x16 :: x17 :: x18 :: x19 :: x20 :: x21 :: x22 :: x23 :: x24 :: x25 :: x26 :: x27 :: x28 :: x29 :: x30 :: x31 :: x32 :: y :: r) 33 y := rfl
theorem st34 {x0 x1 x2 x3 x4 x5 x6 x7 x8 x9 x10 x11 x12 x13 x14 x15 x16 x17 x18 x19 x20 x21 x22 x23 x24 x25 x26 x27 x28 x29 x30 x31 x32 x33 z y : Sl} {r : Env} {N : Env → Prop} (q : N (x0 :: x1 :: x2 :: x3 :: x4 :: x5 :: x6 :: x7 :: x8 :: x9 :: x10 :: x11 :: x12 :: x13 :: x14 :: x15 :: x16 :: x17 :: x18 :: x19 :: x20 :: x21 :: x22 :: x23 :: x24 :: x25 :: x26 :: x27 :: x28 :: x29 :: x30 :: x31 :: x32 :: x33 :: y :: r)) : SETS (List.set (x0 :: x1 :: x2 :: x3 :: x4 :: x5 :: x6 :: x7 :: x8 :: x9 :: x10 :: x11 :: x12 :: x13 :: x14 :: x15 :: x16 :: x17 :: x18 :: x19 :: x20 :: x21 :: x22 :: x23 :: x24 :: x25 :: x26 :: x27 :: x28 :: x29 :: x30 :: x31 :: x32 :: x33 :: z :: r) 34 y) N := q
theorem lk34 {x0 x1 x2 x3 x4 x5 x6 x7 x8 x9 x10 x11 x12 x13 x14 x15 x16 x17 x18 x19 x20 x21 x22 x23 x24 x25 x26 x27 x28 x29 x30 x31 x32 x33 y : Sl} {r : Env} : LK (x0 :: x1 :: x2 :: x3 :: x4 :: x5 :: x6 :: x7 :: x8 :: x9 :: x10 :: x11 :: x12 :: x13 :: x14 :: x15 :: x16 :: x17 :: x18 :: x19 :: x20 :: x21 :: x22 :: x23 :: x24 :: x25 :: x26 :: x27 :: x28 :: x29 :: x30 :: x31 :: x32 :: x33 :: y :: r) 34 y := rfl
theorem st35 {x0 x1 x2 x3 x4 x5 x6 x7 x8 x9 x10 x11 x12 x13 x14 x15 x16 x17 x18 x19 x20 x21 x22 x23 x24 x25 x26 x27 x28 x29 x30 x31 x32 x33 x34 z y : Sl} {r : Env} {N : Env → Prop} (q : N (x0 :: x1 :: x2 :: x3 :: x4 :: x5 :: x6 :: x7 :: x8 :: x9 :: x10 :: x11 :: x12 :: x13 :: x14 :: x15 :: x16 :: x17 :: x18 :: x19 :: x20 :: x21 :: x22 :: x23 :: x24 :: x25 :: x26 :: x27 :: x28 :: x29 :: x30 :: x31 :: x32 :: x33 :: x34 :: y :: r)) : SETS (List.set (x0 :: x1 :: x2 :: x3 :: x4 :: x5 :: x6 :: x7 :: x8 :: x9 :: x10 :: x11 :: x12 :: x13 :: x14 :: x15 :: x16 :: x17 :: x18 :: x19 :: x20 :: x21 :: x22 :: x23 :: x24 :: x25 :: x26 :: x27 :: x28 :: x29 :: x30 :: x31 :: x32 :: x33 :: x34 :: z :: r) 35 y) N := q
theorem lk35 {x0 x1 x2 x3 x4 x5 x6 x7 x8 x9 x10 x11 x12 x13 x14 x15 x16 x17 x18 x19 x20 x21 x22 x23 x24 x25 x26 x27 x28 x29 x30 x31 x32 x33 x34 y : Sl} {r : Env} : LK (x0 :: x1 :: x2 :: x3 :: x4 :: x5 :: x6 :: x7 :: x8 :: x9 :: x10 :: x11 :: x12 :: x13 :: x14 :: x15 :: x16 :: x17 :: x18 :: x19 :: x20 :: x21 :: x22 :: x23 :: x24 :: x25 :: x26 :: x27 :: x28 :: x29 :: x30 :: x31 :: x32 :: x33 :: x34 :: y :: r) 35 y := rfl
theorem st36 {x0 x1 x2 x3 x4 x5 x6 x7 x8 x9 x10 x11 x12 x13 x14 x15 x16 x17 x18 x19 x20 x21 x22 x23 x24 x25 x26 x27 x28 x29 x30 x31 x32 x33 x34 x35 z y : Sl} {r : Env} {N : Env → Prop} (q : N (x0 :: x1 :: x2 :: x3 :: x4 :: x5 :: x6 :: x7 :: x8 :: x9 :: x10 :: x11 :: x12 :: x13 :: x14 :: x15 :: x16 :: x17 :: x18 :: x19 :: x20 :: x21 :: x22 :: x23 :: x24 :: x25 :: x26 :: x27 :: x28 :: x29 :: x30 :: x31 :: x32 :: x33 :: x34 :: x35 :: y :: r)) : SETS (List.set (x0 :: x1 :: x2 :: x3 :: x4 :: x5 :: x6 :: x7 :: x8 :: x9 :: x10 :: x11 :: x12 :: x13 :: x14 :: x15 :: x16 :: x17 :: x18 :: x19 :: x20 :: x21 :: x22 :: x23 :: x24 :: x25 :: x26 :: x27 :: x28 :: x29 :: x30 :: x31 :: x32 :: x33 :: x34 :: x35 :: z :: r) 36 y) N := q
theorem lk36 {x0 x1 x2 x3 x4 x5 x6 x7 x8 x9 x10 x11 x12 x13 x14 x15 x16 x17 x18 x19 x20 x21 x22 x23 x24 x25 x26 x27 x28 x29 x30 x31 x32 x33 x34 x35 y : Sl} {r : Env} : LK (x0 :: x1 :: x2 :: x3 :: x4 :: x5 :: x6 :: x7 :: x8 :: x9 :: x10 :: x11 :: x12 :: x13 :: x14 :: x15 :: x16 :: x17 :: x18 :: x19 :: x20 :: x21 :: x22 :: x23 :: x24 :: x25 :: x26 :: x27 :: x28 :: x29 :: x30 :: x31 :: x32 :: x33 :: x34 :: x35 :: y :: r) 36 y := rfl
theorem st37 {x0 x1 x2 x3 x4 x5 x6 x7 x8 x9 x10 x11 x12 x13 x14 x15 x16 x17 x18 x19 x20 x21 x22 x23 x24 x25 x26 x27 x28 x29 x30 x31 x32 x33 x34 x35 x36 z y : Sl} {r : Env} {N : Env → Prop} (q : N (x0 :: x1 :: x2 :: x3 :: x4 :: x5 :: x6 :: x7 :: x8 :: x9 :: x10 :: x11 :: x12 :: x13 :: x14 :: x15 :: x16 :: x17 :: x18 :: x19 :: x20 :: x21 :: x22 :: x23 :: x24 :: x25 :: x26 :: x27 :: x28 :: x29 :: x30 :: x31 :: x32 :: x33 :: x34 :: x35 :: x36 :: y :: r)) : SETS (List.set (x0 :: x1 :: x2 :: x3 :: x4 :: x5 :: x6 :: x7 :: x8 :: x9 :: x10 :: x11 :: x12 :: x13 :: x14 :: x15 :: x16 :: x17 :: x18 :: x19 :: x20 :: x21 :: x22 :: x23 :: x24 :: x25 :: x26 :: x27 :: x28 :: x29 :: x30 :: x31 :: x32 :: x33 :: x34 :: x35 :: x36 :: z :: r) 37 y) N := q
theorem lk37 {x0 x1 x2 x3 x4 x5 x6 x7 x8 x9 x10 x11 x12 x13 x14 x15 x16 x17 x18 x19 x20 x21 x22 x23 x24 x25 x26 x27 x28 x29 x30 x31 x32 x33 x34 x35 x36 y : Sl} {r : Env} : LK (x0 :: x1 :: x2 :: x3 :: x4 :: x5 :: x6 :: x7 :: x8 :: x9 :: x10 :: x11 :: x12 :: x13 :: x14 :: x15 :: x16 :: x17 :: x18 :: x19 :: x20 :: x21 :: x22 :: x23 :: x24 :: x25 :: x26 :: x27 :: x28 :: x29 :: x30 :: x31 :: x32 :: x33 :: x34 :: x35 :: x36 :: y :: r) 37 y := rfl
theorem st38 {x0 x1 x2 x3 x4 x5 x6 x7 x8 x9 x10 x11 x12 x13 x14 x15 x16 x17 x18 x19 x20 x21 x22 x23 x24 x25 x26 x27 x28 x29 x30 x31 x32 x33 x34 x35 x36 x37 z y : Sl} {r : Env} {N : Env → Prop} (q : N (x0 :: x1 :: x2 :: x3 :: x4 :: x5 :: x6 :: x7 :: x8 :: x9 :: x10 :: x11 :: x12 :: x13 :: x14 :: x15 :: x16 :: x17 :: x18 :: x19 :: x20 :: x21 :: x22 :: x23 :: x24 :: x25 :: x26 :: x27 :: x28 :: x29 :: x30 :: x31 :: x32 :: x33 :: x34 :: x35 :: x36 :: x37 :: y :: r)) : SETS (List.set (x0 :: x1 :: x2 :: x3 :: x4 :: x5 :: x6 :: x7 :: x8 :: x9 :: x10 :: x11 :: x12 :: x13 :: x14 :: x15 :: x16 :: x17 :: x18 :: x19 :: x20 :: x21 :: x22 :: x23 :: x24 :: x25 :: x26 :: x27 :: x28 :: x29 :: x30 :: x31 :: x32 :: x33 :: x34 :: x35 :: x36 :: x37 :: z :: r) 38 y) N := q
theorem lk38 {x0 x1 x2 x3 x4 x5 x6 x7 x8 x9 x10 x11 x12 x13 x14 x15 x16 x17 x18 x19 x20 x21 x22 x23 x24 x25 x26 x27 x28 x29 x30 x31 x32 x33 x34 x35 x36 x37 y : Sl} {r : Env} : LK (x0 :: x1 :: x2 :: x3 :: x4 :: x5 :: x6 :: x7 :: x8 :: x9 :: x10 :: x11 :: x12 :: x13 :: x14 :: x15 :: x16 :: x17 :: x18 :: x19 :: x20 :: x21 :: x22 :: x23 :: x24 :: x25 :: x26 :: x27 :: x28 :: x29 :: x30 :: x31 :: x32 :: x33 :: x34 :: x35 :: x36 :: x37 :: y :: r) 38 y := rfl
theorem st39 {x0 x1 x2 x3 x4 x5 x6 x7 x8 x9 x10 x11 x12 x13 x14 x15 x16 x17 x18 x19 x20 x21 x22 x23 x24 x25 x26 x27 x28 x29 x30 x31 x32 x33 x34 x35 x36 x37 x38 z y : Sl} {r : Env} {N : Env → Prop} (q : N (x0 :: x1 :: x2 :: x3 :: x4 :: x5 :: x6 :: x7 :: x8 :: x9 :: x10 :: x11 :: x12 :: x13 :: x14 :: x15 :: x16 :: x17 :: x18 :: x19 :: x20 :: x21 :: x22 :: x23 :: x24 :: x25 :: x26 :: x27 :: x28 :: x29 :: x30 :: x31 :: x32 :: x33 :: x34 :: x35 :: x36 :: x37 :: x38 :: y :: r)) : SETS (List.set (x0 :: x1 :: x2 :: x3 :: x4 :: x5 :: x6 :: x7 :: x8 :: x9 :: x10 :: x11 :: x12 :: x13 :: x14 :: x15 :: x16 :: x17 :: x18 :: x19 :: x20 :: x21 :: x22 :: x23 :: x24 :: x25 :: x26 :: x27 :: x28 :: x29 :: x30 :: x31 :: x32 :: x33 :: x34 :: x35 :: x36 :: x37 :: x38 :: z :: r) 39 y) N := q
theorem lk39 {x0 x1 x2 x3 x4 x5 x6 x7 x8 x9 x10 x11 x12 x13 x14 x15 x16 x17 x18 x19 x20 x21 x22 x23 x24 x25 x26 x27 x28 x29 x30 x31 x32 x33 x34 x35 x36 x37 x38 y : Sl} {r : Env} : LK (x0 :: x1 :: x2 :: x3 :: x4 :: x5 :: x6 :: x7 :: x8 :: x9 :: x10 :: x11 :: x12 :: x13 :: x14 :: x15 :: x16 :: x17 :: x18 :: x19 :: x20 :: x21 :: x22 :: x23 :: x24 :: x25 :: x26 :: x27 :: x28 :: x29 :: x30 :: x31 :: x32 :: x33 :: x34 :: x35 :: x36 :: x37 :: x38 :: y :: r) 39 y := rfl
section
variable {ρ : Env} {Q : D → Env → Prop} {QB : Bool → Env → Prop} {QA : List D → Env → Prop} {N : Env → Prop} {Rt : D → Env → Prop} {B C : Env → Prop} {Xp : Str → D → Env → Prop} {ma mb mc m mi mv mk : ME} {mt mu' : MT} {ms : List ME} {m1 m2 : MS} {d e : D} {i j : Nat} {f g : D → D → Option D}
theorem w_val (l : LK ρ i (.val d)) (q : Q d ρ) : Sat (mVar i ρ) Q := ⟨d, ρ, by unfold mVar; rw [show ρ[i]? = some (.val d) from l], q⟩
theorem w_own (l : LK ρ i (.own d)) (q : SETS (ρ.set i (.val d)) (Q d)) : Sat (mVar i ρ) Q := ⟨d, _, by unfold mVar; rw [show ρ[i]? = some (.own d) from l], q⟩
theorem w_c (q : Q d ρ) : Sat (mC d ρ) Q := ⟨d, ρ, rfl, q⟩
theorem w_op (q : Sat (ma ρ) fun a ρ1 => Sat (mb ρ1) fun b ρ2 => VAL (f a b) fun d => Q d ρ2) : Sat (mOp f ma mb ρ) Q := by
  obtain ⟨a, ρ1, e1, b, ρ2, e2, d, e3, q⟩ := q
  exact ⟨d, ρ2, by unfold mOp; rw [e1]; show (mb ρ1).bind _ = _; rw [e2]; show ret _ _ = _; rw [e3]; rfl, q⟩
theorem w_un {f : D → Option D} (q : Sat (ma ρ) fun a ρ1 => VAL (f a) fun d => Q d ρ1) : Sat (mUn f ma ρ) Q := by
  obtain ⟨a, ρ1, e1, d, e3, q⟩ := q
  exact ⟨d, ρ1, by unfold mUn; rw [e1]; show ret _ _ = _; rw [e3]; rfl, q⟩
theorem w_nil (q : QA [] ρ) : SatA (mA [] ρ) QA := ⟨[], ρ, rfl, q⟩
theorem w_cons (q : Sat (m ρ) fun a ρ1 => SatA (mA ms ρ1) fun as ρ2 => QA (a :: as) ρ2) : SatA (mA (m :: ms) ρ) QA := by
  obtain ⟨a, ρ1, e1, as, ρ2, e2, q⟩ := q
  exact ⟨_, ρ2, by unfold mA; rw [e1]; show (mA ms ρ1).bind _ = _; rw [e2]; rfl, q⟩
theorem w_snil (q : QA [] ρ) : SatA (mAS [] ρ) QA := ⟨[], ρ, rfl, q⟩
theorem w_sone {ms : List AI} (q : Sat (m ρ) fun a ρ1 => SatA (mAS ms ρ1) fun as ρ2 => QA (a :: as) ρ2) : SatA (mAS (.one m :: ms) ρ) QA := by
  obtain ⟨a, ρ1, e1, as, ρ2, e2, q⟩ := q
  exact ⟨_, ρ2, by unfold mAS; rw [e1]; show (mAS ms ρ1).bind _ = _; rw [e2]; rfl, q⟩
def ITEMS (o : Option (List D)) (Q : List D → Prop) : Prop := ∃ ds, o = some ds ∧ Q ds
theorem w_sstar {ms : List AI} (q : Sat (m ρ) fun a ρ1 => ITEMS (itemsD a) fun ds => SatA (mAS ms ρ1) fun as ρ2 => QA (ds ++ as) ρ2) : SatA (mAS (.star m :: ms) ρ) QA := by
  obtain ⟨a, ρ1, e1, ds, e3, as, ρ2, e2, q⟩ := q
  exact ⟨_, ρ2, by unfold mAS; rw [e1]; show (match itemsD a with | some ds => _ | none => _) = _; rw [e3]; show (mAS ms ρ1).bind _ = _; rw [e2]; rfl, q⟩
theorem w_itT {ds : List D} {Q : List D → Prop} (q : Q ds) : ITEMS (itemsD (.tuple ds)) Q := ⟨ds, rfl, q⟩
theorem w_itL {ds : List D} {Q : List D → Prop} (q : Q ds) : ITEMS (itemsD (.list ds)) Q := ⟨ds, rfl, q⟩
def LEQ (ds : List D) (P : Prop) : Prop := ds.length ≤ 16777216 ∧ P
theorem leq {ds : List D} {P : Prop} (h : ds.length ≤ 16777216) (q : P) : LEQ ds P := ⟨h, q⟩
theorem w_tupS {as : List AI} (q : SatA (mAS as ρ) fun ds ρ1 => LEQ ds (Q (.tuple ds) ρ1)) : Sat (mTupS as ρ) Q := by
  obtain ⟨ds, ρ1, e1, h, q⟩ := q
  exact ⟨_, ρ1, by unfold mTupS; rw [e1]; show (if ds.length ≤ 16777216 then _ else _) = _; rw [if_pos h], q⟩
theorem w_tup (q : SatA (mA ms ρ) fun ds ρ1 => Q (.tuple ds) ρ1) : Sat (mTup ms ρ) Q := by
  obtain ⟨ds, ρ1, e1, q⟩ := q
  exact ⟨_, ρ1, by unfold mTup; rw [e1]; rfl, q⟩
theorem w_lst (q : SatA (mA ms ρ) fun ds ρ1 => Q (.list ds) ρ1) : Sat (mLst ms ρ) Q := by
  obtain ⟨ds, ρ1, e1, q⟩ := q
  exact ⟨_, ρ1, by unfold mLst; rw [e1]; rfl, q⟩
theorem w_cb {f : List D → Option D} (q : SatA (mA ms ρ) fun ds ρ1 => VAL (f ds) fun d => Q d ρ1) : Sat (mCB f ms ρ) Q := by
  obtain ⟨ds, ρ1, e1, d, e2, q⟩ := q
  exact ⟨d, ρ1, by unfold mCB; rw [e1]; show ret _ _ = _; rw [e2]; rfl, q⟩
theorem w_call {f : MF} (q : SatA (mA ms ρ) fun ds ρ1 => SatP (f ds) fun d => Q d ρ1) : Sat (mCall f ms ρ) Q := by
  obtain ⟨ds, ρ1, e1, d, e2, q⟩ := q
  exact ⟨d, ρ1, by unfold mCall; rw [e1]; show (f ds).nx.bind _ = _; rw [e2]; rfl, q⟩
def MU (o : Option D) (Q : D → Prop) : Prop := ∃ d, o = some d ∧ Q d
theorem mu_own {Q : D → Prop} (l : LK ρ i (.own d)) (q : Q d) : MU (mu ρ i) Q := ⟨d, by unfold mu; rw [show ρ[i]? = some (.own d) from l], q⟩
theorem mu_io {Q : D → Prop} (l : LK ρ i (.io d)) (q : Q d) : MU (mu ρ i) Q := ⟨d, by unfold mu; rw [show ρ[i]? = some (.io d) from l], q⟩
theorem mu_own' (l : LK ρ i (.own d)) : mu ρ i = some d := by unfold mu; rw [show ρ[i]? = some (.own d) from l]
theorem mu_io' (l : LK ρ i (.io d)) : mu ρ i = some d := by unfold mu; rw [show ρ[i]? = some (.io d) from l]
theorem put_own (l : LK ρ i (.own d)) (q : SETS (ρ.set i (.own e)) N) : SETS (putMu ρ i e) N := by unfold putMu; rw [show ρ[i]? = some (.own d) from l]; exact q
theorem put_io (l : LK ρ i (.io d)) (q : SETS (ρ.set i (.io e)) N) : SETS (putMu ρ i e) N := by unfold putMu; rw [show ρ[i]? = some (.io d) from l]; exact q
theorem w_callI {f : MFi} (q : MU (mu ρ j) fun _ => SatA (mA ms ρ) fun ds ρ1 => MU (mu ρ1 j) fun d0 => SatI (f d0 ds) fun d d' => SETS (putMu ρ1 j d') fun ρ2 => Q d ρ2) : Sat (mCallI f j ms ρ) Q := by
  obtain ⟨d0, e0, ds, ρ1, e1, d1, e2, d, d', e3, q⟩ := q
  exact ⟨d, _, by unfold mCallI; rw [e0]; show (mA ms ρ).bind _ = _; rw [e1]; show (match mu ρ1 j with | none => _ | some d0 => _) = _; rw [e2]; show (f d1 ds).nx.bind _ = _; rw [e3]; rfl, q⟩
theorem w_peek (q : MU (mu ρ j) fun _ => Sat (m ρ) fun a ρ1 => MU (mu ρ1 j) fun d => VAL (f d a) fun z => Q z ρ1) : Sat (mPk j m f ρ) Q := by
  obtain ⟨d0, e0, a, ρ1, e1, d1, e2, z, e3, q⟩ := q
  exact ⟨z, ρ1, by unfold mPk; rw [e0]; show mPeek j m f ρ = _; unfold mPeek; rw [e0]; show (m ρ).bind _ = _; rw [e1]; show (match mu ρ1 j with | none => _ | some d => _) = _; rw [e2]; show ret _ _ = _; rw [e3]; rfl, q⟩
theorem mu_val (l : LK ρ i (.val d)) : mu ρ i = none := by unfold mu; rw [show ρ[i]? = some (.val d) from l]
theorem w_pkv (l : LK ρ j (.val d)) (q : Sat (m ρ) fun a ρ1 => VAL (f d a) fun z => Q z ρ1) : Sat (mPk j m f ρ) Q := by
  have : mPk j m f ρ = mOp f (mVar j) m ρ := by unfold mPk; rw [mu_val l]
  rw [this]
  exact w_op (w_val l q)
theorem w_getV (q : Sat (mPk j mk fGetD ρ) Q) : Sat (mGetV j mk ρ) Q := q
theorem w_ixV (q : Sat (mPk j mk fIxL ρ) Q) : Sat (mIxV j mk ρ) Q := q
theorem w_get (q : Sat (mOp fGetD m mk ρ) Q) : Sat (mGet m mk ρ) Q := q
theorem w_lenO {ds : List D} (l : LK ρ j (.own (.list ds))) (q : Q (.int ds.length) ρ) : Sat (mLenV j ρ) Q := ⟨_, ρ, by unfold mLenV; rw [mu_own' l], q⟩
theorem w_lenv (l : LK ρ j (.val d)) (q : VAL (cbLen [d]) fun d => Q d ρ) : Sat (mLenV j ρ) Q := by
  have : mLenV j ρ = mCB cbLen [mVar j] ρ := by unfold mLenV; rw [mu_val l]
  rw [this]
  exact w_cb (w_cons (w_val l (w_nil q)))
def IFV (b : Bool) (A C : Prop) : Prop := if b = true then A else C
def BL (d : D) (N : Bool → Prop) : Prop := ∃ b, d = .bool b ∧ N b
theorem bl_ {b : Bool} {N : Bool → Prop} (q : N b) : BL (.bool b) N := ⟨b, rfl, q⟩
theorem w_B (q : Sat (m ρ) fun d ρ1 => BL d fun b => QB b ρ1) : SatT (mB m ρ) QB := by
  obtain ⟨d, ρ1, e1, b, rfl, q⟩ := q
  exact ⟨b, ρ1, by unfold mB; rw [e1]; rfl, q⟩
theorem w_andT {a b : MT} (q : SatT (a ρ) fun c ρ1 => IFV c (SatT (b ρ1) QB) (QB false ρ1)) : SatT (mAndT a b ρ) QB := by
  obtain ⟨c, ρ1, e1, q⟩ := q
  unfold mAndT
  rw [e1]
  show SatT (if c = true then b ρ1 else .ok (false, ρ1)) QB
  unfold IFV at q
  split at q
  · rw [if_pos (by assumption)]; exact q
  · rw [if_neg (by assumption)]; exact ⟨_, _, rfl, q⟩
theorem w_orT {a b : MT} (q : SatT (a ρ) fun c ρ1 => IFV c (QB true ρ1) (SatT (b ρ1) QB)) : SatT (mOrT a b ρ) QB := by
  obtain ⟨c, ρ1, e1, q⟩ := q
  unfold mOrT
  rw [e1]
  show SatT (if c = true then .ok (true, ρ1) else b ρ1) QB
  unfold IFV at q
  split at q
  · rw [if_pos (by assumption)]; exact ⟨_, _, rfl, q⟩
  · rw [if_neg (by assumption)]; exact q
theorem w_notT {a : MT} (q : SatT (a ρ) fun c ρ1 => QB (!c) ρ1) : SatT (mNotT a ρ) QB := by
  obtain ⟨c, ρ1, e1, q⟩ := q
  exact ⟨!c, ρ1, by unfold mNotT; rw [e1]; rfl, q⟩
theorem w_andV (q : Sat (ma ρ) fun d ρ1 => BL d fun c => IFV c (Sat (mb ρ1) Q) (Q (.bool false) ρ1)) : Sat (mAndV ma mb ρ) Q := by
  obtain ⟨d, ρ1, e1, c, rfl, q⟩ := q
  unfold mAndV mB
  rw [e1]
  show Sat (if c = true then mb ρ1 else .ok (.bool false, ρ1)) Q
  unfold IFV at q
  split at q
  · rw [if_pos (by assumption)]; exact q
  · rw [if_neg (by assumption)]; exact ⟨_, _, rfl, q⟩
theorem w_orV (q : Sat (ma ρ) fun d ρ1 => BL d fun c => IFV c (Q (.bool true) ρ1) (Sat (mb ρ1) Q)) : Sat (mOrV ma mb ρ) Q := by
  obtain ⟨d, ρ1, e1, c, rfl, q⟩ := q
  unfold mOrV mB
  rw [e1]
  show Sat (if c = true then .ok (.bool true, ρ1) else mb ρ1) Q
  unfold IFV at q
  split at q
  · rw [if_pos (by assumption)]; exact ⟨_, _, rfl, q⟩
  · rw [if_neg (by assumption)]; exact q
theorem w_notV (q : Sat (ma ρ) fun d ρ1 => BL d fun c => Q (.bool (!c)) ρ1) : Sat (mNotV ma ρ) Q := by
  obtain ⟨d, ρ1, e1, c, rfl, q⟩ := q
  exact ⟨_, ρ1, by unfold mNotV mB; rw [e1]; rfl, q⟩
theorem w_if (q : SatT (mt ρ) fun c ρ1 => IFV c (Sat (ma ρ1) Q) (Sat (mb ρ1) Q)) : Sat (mIf mt ma mb ρ) Q := by
  obtain ⟨c, ρ1, e1, q⟩ := q
  unfold mIf
  rw [e1]
  show Sat (if c = true then ma ρ1 else mb ρ1) Q
  unfold IFV at q
  split at q
  · rw [if_pos (by assumption)]; exact q
  · rw [if_neg (by assumption)]; exact q
theorem w_chain (q : Sat (ma ρ) fun a ρ1 => Sat (mb ρ1) fun b ρ2 => VAL (f a b) fun z => BL z fun c => IFV c (Sat (mc ρ2) fun d ρ3 => VAL (g b d) fun z => Q z ρ3) (Q (.bool false) ρ2)) : Sat (mChain f g ma mb mc ρ) Q := by
  obtain ⟨a, ρ1, e1, b, ρ2, e2, z, e3, c, rfl, q⟩ := q
  unfold mChain
  rw [e1]
  show Sat ((mb ρ1).bind _) Q
  rw [e2]
  show Sat (match (f a b).bind bl1 with | some true => _ | some false => _ | none => _) Q
  rw [e3]
  unfold IFV at q
  cases c with
  | true =>
    rw [if_pos rfl] at q
    obtain ⟨d, ρ3, e4, z, e5, q⟩ := q
    refine ⟨z, ρ3, ?_, q⟩
    show (mc ρ2).bind _ = _
    rw [e4]
    show ret _ _ = _
    rw [e5]
    rfl
  | false => rw [if_neg Bool.false_ne_true] at q; exact ⟨_, _, rfl, q⟩
def ISL (z : D) (P : Prop) : Prop := (∃ xs, z = .list xs) ∧ P
theorem isl {xs : List D} {P : Prop} (q : P) : ISL (.list xs) P := ⟨⟨_, rfl⟩, q⟩
def APP (z a : D) (ρ : Env) (j : Nat) (N : Env → Prop) : Prop := ∃ ds : List D, z = .list ds ∧ ds.length < 16777216 ∧ SETS (putMu ρ j (.list (ds ++ [a]))) N
theorem app_ {ds : List D} (h : ds.length < 16777216) (q : SETS (putMu ρ j (.list (ds ++ [d]))) N) : APP (.list ds) d ρ j N := ⟨_, rfl, h, q⟩
theorem w_app (q : MU (mu ρ j) fun z => ISL z (Sat (m ρ) fun a ρ1 => MU (mu ρ1 j) fun z => APP z a ρ1 j fun ρ2 => Q .none ρ2)) : Sat (mApp j m ρ) Q := by
  obtain ⟨_, e0, ⟨xs, rfl⟩, a, ρ1, e1, _, e2, ds, rfl, hl, q⟩ := q
  exact ⟨.none, _, by unfold mApp; rw [e0]; show (m ρ).bind _ = _; rw [e1]; show (match mu ρ1 j with | some (.list ds) => _ | _ => _) = _; rw [e2]; show (if ds.length < 16777216 then _ else _) = _; rw [if_pos hl], q⟩
theorem w_ins (q : MU (mu ρ j) fun z => (∃ xs, z = .list xs) ∧ SatA (mA [mi, m] ρ) fun as ρ1 => MU (mu ρ1 j) fun z => ∃ (ds : List D) (k : Int) (y : D), z = .list ds ∧ as = [.int k, y] ∧ (ds.length < 16777216 ∧ 0 ≤ k ∧ k < 1000000000) ∧ SETS (putMu ρ1 j (.list (ds.take k.toNat ++ [y] ++ ds.drop k.toNat))) fun ρ2 => Q .none ρ2) : Sat (mIns j mi m ρ) Q := by
  obtain ⟨_, e0, ⟨xs, rfl⟩, as, ρ1, e1, _, e2, ds, k, y, rfl, rfl, hl, q⟩ := q
  exact ⟨.none, _, by unfold mIns; rw [e0]; show (mA [mi, m] ρ).bind _ = _; rw [e1]; dsimp only [Res.bind]; rw [e2]; dsimp only; rw [if_pos hl], q⟩
theorem w_isi {n : String} (q : Sat (m ρ) fun d ρ1 => ∃ b, isiD n d = some b ∧ Q (.bool b) ρ1) : Sat (mIsi n m ρ) Q := by
  obtain ⟨d, ρ1, e1, b, e2, q⟩ := q
  exact ⟨_, ρ1, by unfold mIsi; rw [e1]; dsimp only [Res.bind]; rw [e2], q⟩
theorem w_none {QO : Option Int → Env → Prop} (q : QO none ρ) : SatO (mNoPart ρ) QO := ⟨_, _, rfl, q⟩
def PRT (d : D) (N : Int → Prop) : Prop := ∃ i, d = .int i ∧ N i
theorem prt {i : Int} {N : Int → Prop} (q : N i) : PRT (.int i) N := ⟨i, rfl, q⟩
theorem w_part {QO : Option Int → Env → Prop} (q : Sat (m ρ) fun d ρ1 => PRT d fun i => QO (some i) ρ1) : SatO (mPart m ρ) QO := by
  obtain ⟨d, ρ1, e1, i, rfl, q⟩ := q
  exact ⟨_, ρ1, by unfold mPart; rw [e1]; rfl, q⟩
theorem w_sl {f : D → Option Int → Option Int → Option D} {ml mh : MO} (q : Sat (m ρ) fun d ρ1 => SatO (ml ρ1) fun l ρ2 => SatO (mh ρ2) fun h ρ3 => VAL (f d l h) fun z => Q z ρ3) : Sat (mSl f m ml mh ρ) Q := by
  obtain ⟨d, ρ1, e1, l, ρ2, e2, h, ρ3, e3, z, e4, q⟩ := q
  exact ⟨z, ρ3, by unfold mSl; rw [e1]; dsimp only [Res.bind]; rw [e2]; dsimp only; rw [e3]; dsimp only; rw [e4]; rfl, q⟩
theorem w_d0 (q : Q (.dict []) ρ) : Sat (mDict0 ρ) Q := ⟨_, _, rfl, q⟩
/-! statements -/
theorem w_seq (q : SatS (m1 ρ) (fun ρ' => SatS (m2 ρ') N Rt B C Xp) Rt B C Xp) : SatS (mSeq m1 m2 ρ) N Rt B C Xp := by
  unfold mSeq
  cases e : m1 ρ <;> rw [e] at q <;> exact q
theorem w_next (q : N ρ) : SatS (mNext ρ) N Rt B C Xp := q
theorem w_drop (q : Sat (m ρ) fun _ ρ1 => N ρ1) : SatS (mDrop m ρ) N Rt B C Xp := by
  obtain ⟨d, ρ1, e1, q⟩ := q
  unfold mDrop
  rw [e1]
  exact q
theorem w_ret (q : Sat (m ρ) Rt) : SatS (mRet m ρ) N Rt B C Xp := by
  obtain ⟨d, ρ1, e1, q⟩ := q
  unfold mRet
  rw [e1]
  exact q
theorem w_retN (q : Rt .none ρ) : SatS (mRetN ρ) N Rt B C Xp := q
theorem w_brk (q : B ρ) : SatS (mBrk ρ) N Rt B C Xp := q
theorem w_cnt (q : C ρ) : SatS (mCnt ρ) N Rt B C Xp := q
theorem w_ifS (q : SatT (mt ρ) fun c ρ1 => IFV c (SatS (m1 ρ1) N Rt B C Xp) (SatS (m2 ρ1) N Rt B C Xp)) : SatS (mIfS mt m1 m2 ρ) N Rt B C Xp := by
  obtain ⟨c, ρ1, e1, q⟩ := q
  unfold mIfS
  rw [e1]
  show SatS (if c = true then m1 ρ1 else m2 ρ1) N Rt B C Xp
  unfold IFV at q
  split at q
  · rw [if_pos (by assumption)]; exact q
  · rw [if_neg (by assumption)]; exact q
theorem w_asg {tg : MG} (q : Sat (m ρ) fun d ρ1 => TG (tg d ρ1) N) : SatS (mAsg tg m ρ) N Rt B C Xp := by
  obtain ⟨d, ρ1, e1, ρ2, e2, q⟩ := q
  unfold mAsg
  rw [e1]
  show SatS (oOut (tg d ρ1) .nx) N Rt B C Xp
  rw [e2]
  exact q
theorem nio_val (l : LK ρ i (.val d)) : notIo ρ i = true := by unfold notIo; rw [show ρ[i]? = some (.val d) from l]
theorem nio_no (l : LK ρ i .no) : notIo ρ i = true := by unfold notIo; rw [show ρ[i]? = some .no from l]
theorem nio_own (l : LK ρ i (.own d)) : notIo ρ i = true := by unfold notIo; rw [show ρ[i]? = some (.own d) from l]
theorem tg_n (h : notIo ρ i = true) (q : SETS (ρ.set i (.val d)) N) : TG (gN i d ρ) N := ⟨_, by unfold gN; rw [if_pos h], q⟩
theorem tg_set (h : notIo ρ i = true) (q : SETS (ρ.set i (.val d)) N) : TG (some (ρ.set i (.val d))) N := ⟨_, rfl, q⟩
def TGS (o : Option Env) (N : Env → Prop) : Prop := TG o N
theorem tg_t {n : Nat} {gs : MGs} {ds : List D} (h : ds.length = n) (q : TGS (gs ds ρ) N) : TG (gT n gs (.tuple ds) ρ) N := by
  unfold gT
  dsimp only
  rw [if_pos h]
  exact q
theorem tgs_nil (q : N ρ) : TGS (gNils [] ρ) N := ⟨_, rfl, q⟩
theorem tgs_cons {g : MG} {gs : MGs} {ds : List D} (q : TG (g d ρ) fun ρ1 => TGS (gs ds ρ1) N) : TGS (gConss g gs (d :: ds) ρ) N := by
  obtain ⟨ρ1, e1, ρ2, e2, q⟩ := q
  refine ⟨ρ2, ?_, q⟩
  show (g d ρ).bind (gs ds) = some ρ2
  rw [e1]
  exact e2
def SETO (ρ : Env) (i : Nat) (d : D) (N : Env → Prop) : Prop := notIo ρ i = true ∧ SETS (ρ.set i (.own d)) N
theorem seto (h : notIo ρ i = true) (q : SETS (ρ.set i (.own d)) N) : SETO ρ i d N := ⟨h, q⟩
theorem w_setO (q : Sat (m ρ) fun d ρ1 => SETO ρ1 i d N) : SatS (mSetO i m ρ) N Rt B C Xp := by
  obtain ⟨d, ρ1, e1, h, q⟩ := q
  unfold mSetO
  rw [e1]
  show SatS (if notIo ρ1 i = true then _ else _) N Rt B C Xp
  rw [if_pos h]
  exact q
theorem and_rfl {α : Type} {a : α} {P : Prop} (q : P) : a = a ∧ P := ⟨rfl, q⟩
theorem w_putO (q : Sat (mv ρ) fun d ρ1 => MU (mu ρ1 j) fun _ => Sat (mk ρ1) fun k ρ2 => MU (mu ρ2 j) fun z => ∃ kds kk, z = .dict kds ∧ keyD k = some kk ∧ kds.length < 16777216 ∧ SETS (putMu ρ2 j (.dict (putD kds kk d))) N) : SatS (mPutO j mk mv ρ) N Rt B C Xp := by
  obtain ⟨d, ρ1, e1, d0, e0, k, ρ2, e2, _, e3, kds, kk, rfl, e4, hl, q⟩ := q
  unfold mPutO
  rw [e1]
  dsimp only [Res.out]
  rw [e0]
  dsimp only
  rw [e2]
  dsimp only
  rw [e3]
  dsimp only
  rw [e4]
  dsimp only
  rw [if_pos hl]
  exact q
theorem w_setIx (q : Sat (mv ρ) fun d ρ1 => MU (mu ρ1 j) fun _ => Sat (mi ρ1) fun k ρ2 => MU (mu ρ2 j) fun z => ∃ (ds : List D) (i : Int) (n : Nat), z = .list ds ∧ k = .int i ∧ ixN ds.length i = some n ∧ SETS (putMu ρ2 j (.list (ds.set n d))) N) : SatS (mSetIx j mi mv ρ) N Rt B C Xp := by
  obtain ⟨d, ρ1, e1, d0, e0, k, ρ2, e2, _, e3, ds, i, n, rfl, rfl, e4, q⟩ := q
  unfold mSetIx
  rw [e1]
  dsimp only [Res.out]
  rw [e0]
  dsimp only
  rw [e2]
  dsimp only
  rw [e3]
  dsimp only
  rw [e4]
  exact q
/-! loops -/
def FORW (tg : MG) (b : MS) (xs : List D) (ρ : Env) (N : Env → Prop) (Rt : D → Env → Prop) (Xp : Str → D → Env → Prop) : Prop := ∀ B C, SatS (mForL tg b xs ρ) N Rt B C Xp
theorem w_for {it : MA} {tg : MG} {b : MS} (q : SatA (it ρ) fun xs ρ1 => FORW tg b xs ρ1 N Rt Xp) : SatS (mFor it tg b ρ) N Rt B C Xp := by
  obtain ⟨xs, ρ1, e1, q⟩ := q
  unfold mFor
  rw [e1]
  exact q B C
theorem for_nil {tg : MG} {b : MS} (q : N ρ) : FORW tg b [] ρ N Rt Xp := fun _ _ => q
theorem for_cons {tg : MG} {b : MS} {x : D} {xs : List D} (q : TG (tg x ρ) fun ρ1 => SatS (b ρ1) (fun ρ2 => FORW tg b xs ρ2 N Rt Xp) Rt N (fun ρ2 => FORW tg b xs ρ2 N Rt Xp) Xp) : FORW tg b (x :: xs) ρ N Rt Xp := by
  obtain ⟨ρ1, e1, q⟩ := q
  intro B C
  unfold mForL
  rw [e1]
  dsimp only [oOut]
  cases e : b ρ1 <;> rw [e] at q <;> first | exact q B C | exact q
/-- by an invariant over the turn -/
theorem for_inv {tg : MG} {b : MS} {xs : List D} (I : Nat → Env → Prop) (h0 : I 0 ρ) (hs : ∀ i x ρ, xs[i]? = some x → I i ρ → TG (tg x ρ) fun ρ1 => SatS (b ρ1) (I (i + 1)) Rt N (I (i + 1)) Xp) (hd : ∀ ρ, I xs.length ρ → N ρ) : FORW tg b xs ρ N Rt Xp := by
  have key : ∀ (ys : List D) (k : Nat) (ρ : Env), (∀ i x, ys[i]? = some x → xs[k + i]? = some x) → k + ys.length = xs.length → I k ρ → FORW tg b ys ρ N Rt Xp := by
    intro ys
    induction ys with
    | nil => intro k ρ _ hk h; exact for_nil (hd ρ (by rw [← hk]; exact h))
    | cons y ys ih =>
      intro k ρ hg hk h
      refine for_cons ?_
      obtain ⟨ρ1, e1, q⟩ := hs k y ρ (by simpa using hg 0 y rfl) h
      refine ⟨ρ1, e1, ?_⟩
      have nxt : ∀ ρ2, I (k + 1) ρ2 → FORW tg b ys ρ2 N Rt Xp := fun ρ2 h2 => ih (k + 1) ρ2 (fun i x e => by have := hg (i + 1) x (by simpa using e); rw [show k + (i + 1) = k + 1 + i by omega] at this; exact this) (by rw [List.length_cons] at hk; omega) h2
      have fin : SatS (b ρ1) (fun ρ2 => FORW tg b ys ρ2 N Rt Xp) Rt N (fun ρ2 => FORW tg b ys ρ2 N Rt Xp) Xp := by
        cases e : b ρ1 <;> rw [e] at q <;> first | exact nxt _ q | exact q
      exact fin
  exact key xs 0 ρ (fun i x e => by rw [Nat.zero_add]; exact e) (by omega) h0
theorem w_while {n : Env → Nat} (q : SatS (mWhile mt m1 (n ρ) ρ) N Rt B C Xp) : SatS ((fun ρ => mWhile mt m1 (n ρ) ρ) ρ) N Rt B C Xp := q
/-- by an invariant and a measure -/
theorem while_inv {fuel : Nat} (I : Env → Prop) (μ : Env → Nat) (h0 : I ρ) (hf : μ ρ < fuel) (hs : ∀ ρ, I ρ → SatT (mt ρ) fun c ρ1 => IFV c (SatS (m1 ρ1) (fun ρ2 => I ρ2 ∧ μ ρ2 < μ ρ) Rt N (fun ρ2 => I ρ2 ∧ μ ρ2 < μ ρ) Xp) (N ρ1)) : SatS (mWhile mt m1 fuel ρ) N Rt B C Xp := by
  induction fuel generalizing ρ with
  | zero => omega
  | succ k ih =>
    unfold mWhile
    obtain ⟨c, ρ1, e1, q⟩ := hs ρ h0
    rw [e1]
    show SatS (if c = true then _ else _) N Rt B C Xp
    unfold IFV at q
    split at q
    · rw [if_pos (by assumption)]
      cases e : m1 ρ1 with
      | nx ρ2 => rw [e] at q; have q : I ρ2 ∧ μ ρ2 < μ ρ := q; exact ih q.1 (by omega)
      | ct ρ2 => rw [e] at q; have q : I ρ2 ∧ μ ρ2 < μ ρ := q; exact ih q.1 (by omega)
      | bk ρ2 => rw [e] at q; exact q
      | rt d ρ2 => rw [e] at q; exact q
      | exc c d ρ2 => rw [e] at q; exact q
      | stuck => rw [e] at q; exact q
    · rw [if_neg (by assumption)]; exact q
def ISLs (d : D) (N : List D → Prop) : Prop := ∃ ds, d = .list ds ∧ N ds
theorem isls {ds : List D} {N : List D → Prop} (q : N ds) : ISLs (.list ds) N := ⟨ds, rfl, q⟩
def ISTs (d : D) (N : List D → Prop) : Prop := ∃ ds, d = .tuple ds ∧ N ds
theorem ists {ds : List D} {N : List D → Prop} (q : N ds) : ISTs (.tuple ds) N := ⟨ds, rfl, q⟩
theorem w_itL1 (q : Sat (m ρ) fun d ρ1 => ISLs d fun ds => QA ds ρ1) : SatA (itL m ρ) QA := by
  obtain ⟨d, ρ1, e1, ds, rfl, q⟩ := q
  exact ⟨ds, ρ1, by unfold itL; rw [e1]; rfl, q⟩
theorem w_itScr {ns : List Int} (l : LK ρ i (.val (scr ns))) (q : QA (ns.map .int) ρ) : SatA (itL (mVar i) ρ) QA := by
  refine ⟨_, ρ, ?_, q⟩
  unfold itL mVar
  rw [show ρ[i]? = some (.val (scr ns)) from l]
  rfl
theorem w_itT1 (q : Sat (m ρ) fun d ρ1 => ISTs d fun ds => QA ds ρ1) : SatA (itT m ρ) QA := by
  obtain ⟨d, ρ1, e1, ds, rfl, q⟩ := q
  exact ⟨ds, ρ1, by unfold itT; rw [e1]; rfl, q⟩
def R1 (ds : List D) (N : List D → Prop) : Prop := ∃ n, ds = [.int n] ∧ (-4611686018427387904 ≤ n ∧ n < 4611686018427387904) ∧ N (rngD 0 n.toNat)
theorem r1_ {n : Int} {N : List D → Prop} (h : -4611686018427387904 ≤ n ∧ n < 4611686018427387904) (q : N (rngD 0 n.toNat)) : R1 [.int n] N := ⟨n, rfl, h, q⟩
def R2 (ds : List D) (N : List D → Prop) : Prop := ∃ i n, ds = [.int i, .int n] ∧ ((-4611686018427387904 ≤ i ∧ i < 4611686018427387904) ∧ -4611686018427387904 ≤ n ∧ n < 4611686018427387904) ∧ N (rngD i (n - i).toNat)
theorem r2_ {i n : Int} {N : List D → Prop} (h : (-4611686018427387904 ≤ i ∧ i < 4611686018427387904) ∧ -4611686018427387904 ≤ n ∧ n < 4611686018427387904) (q : N (rngD i (n - i).toNat)) : R2 [.int i, .int n] N := ⟨i, n, rfl, h, q⟩
theorem w_r1 (q : SatA (mA ms ρ) fun ds ρ1 => R1 ds fun xs => QA xs ρ1) : SatA (itR1 ms ρ) QA := by
  obtain ⟨ds, ρ1, e1, n, rfl, h, q⟩ := q
  exact ⟨_, ρ1, by unfold itR1; rw [e1]; dsimp only [Res.bind]; rw [if_pos (by unfold rOk; rw [decide_eq_true h.1, decide_eq_true h.2]; rfl)], q⟩
theorem w_r2 (q : SatA (mA ms ρ) fun ds ρ1 => R2 ds fun xs => QA xs ρ1) : SatA (itR2 ms ρ) QA := by
  obtain ⟨ds, ρ1, e1, i, n, rfl, h, q⟩ := q
  exact ⟨_, ρ1, by unfold itR2; rw [e1]; dsimp only [Res.bind]; rw [if_pos (by unfold rOk; rw [decide_eq_true h.1.1, decide_eq_true h.1.2, decide_eq_true h.2.1, decide_eq_true h.2.2]; rfl)], q⟩
theorem w_z (q : SatA (mA ms ρ) fun ds ρ1 => ∃ xs ys, (ds = [.list xs, .list ys] ∨ ds = [.tuple xs, .tuple ys]) ∧ QA (zipD xs ys) ρ1) : SatA (itZ ms ρ) QA := by
  obtain ⟨ds, ρ1, e1, xs, ys, rfl | rfl, q⟩ := q
  · exact ⟨_, ρ1, by unfold itZ; rw [e1]; rfl, q⟩
  · exact ⟨_, ρ1, by unfold itZ; rw [e1]; rfl, q⟩
/-! comprehensions -/
def LCW (tg : MG) (mt : MT) (me : ME) (vs : List Nat) (xs acc : List D) (ρ : Env) (Q : List D → Env → Prop) : Prop := SatA (mLcL tg mt me vs xs acc ρ) Q
def WIPE (ρ : Env) (N : Env → Prop) : Prop := N ρ
theorem w_lc {it : MA} {tg : MG} {vs : List Nat} (q : SatA (it ρ) fun xs ρ1 => vs.all (notIo ρ1) = true ∧ WIPE (wipeE ρ1 vs) fun ρ0 => LCW tg mt m vs xs [] ρ0 fun ds ρ2 => WIPE (restE ρ1 ρ2 vs) fun ρ3 => Q (.list ds) ρ3) : Sat (mLc it tg mt m vs ρ) Q := by
  obtain ⟨xs, ρ1, e1, h, ds, ρ2, e2, q⟩ := q
  exact ⟨_, _, by unfold mLc; rw [e1]; dsimp only [Res.bind]; rw [if_pos h, e2], q⟩
theorem lc_nil {tg : MG} {vs : List Nat} {acc : List D} (q : QA acc ρ) : LCW tg mt m vs [] acc ρ QA := ⟨_, _, rfl, q⟩
theorem lc_cons {tg : MG} {vs : List Nat} {acc : List D} {x : D} {xs : List D} (q : TG (tg x ρ) fun ρ1 => SatT (mt ρ1) fun c ρ2 => IFV c (Sat (m ρ2) fun d ρ3 => (acc.length < 16777216 ∧ vs.all (notIo ρ3) = true) ∧ WIPE (wipeE ρ3 vs) fun ρ4 => LCW tg mt m vs xs (acc ++ [d]) ρ4 QA) (vs.all (notIo ρ2) = true ∧ WIPE (wipeE ρ2 vs) fun ρ4 => LCW tg mt m vs xs acc ρ4 QA)) : LCW tg mt m vs (x :: xs) acc ρ QA := by
  obtain ⟨ρ1, e1, c, ρ2, e2, q⟩ := q
  unfold LCW mLcL
  rw [e1]
  dsimp only
  rw [e2]
  show SatA (if c = true then _ else _) QA
  unfold IFV at q
  split at q
  · rw [if_pos (by assumption)]
    obtain ⟨d, ρ3, e3, h, q⟩ := q
    rw [e3]
    show SatA (if acc.length < 16777216 ∧ vs.all (notIo ρ3) = true then _ else _) QA
    rw [if_pos h]
    exact q
  · rw [if_neg (by assumption), if_pos q.1]
    exact q.2
/-- by an invariant over the turn: the list so far, the slots -/
theorem lc_inv {tg : MG} {vs : List Nat} {xs : List D} (I : Nat → List D → Env → Prop) (h0 : I 0 [] ρ) (hl : xs.length < 16777216) (hs : ∀ i x acc ρ, xs[i]? = some x → I i acc ρ → TG (tg x ρ) fun ρ1 => SatT (mt ρ1) fun c ρ2 => IFV c (Sat (m ρ2) fun d ρ3 => vs.all (notIo ρ3) = true ∧ WIPE (wipeE ρ3 vs) fun ρ4 => I (i + 1) (acc ++ [d]) ρ4) (vs.all (notIo ρ2) = true ∧ WIPE (wipeE ρ2 vs) fun ρ4 => I (i + 1) acc ρ4))
    (hd : ∀ acc ρ, I xs.length acc ρ → QA acc ρ) : LCW tg mt m vs xs [] ρ QA := by
  have key : ∀ (ys : List D) (k : Nat) (acc : List D) (ρ : Env), (∀ i x, ys[i]? = some x → xs[k + i]? = some x) → k + ys.length = xs.length → acc.length ≤ k → I k acc ρ → LCW tg mt m vs ys acc ρ QA := by
    intro ys
    induction ys with
    | nil => intro k acc ρ _ hk _ h; exact lc_nil (hd acc ρ (by rw [← hk]; exact h))
    | cons y ys ih =>
      intro k acc ρ hg hk ha h
      refine lc_cons ?_
      rw [List.length_cons] at hk
      obtain ⟨ρ1, e1, c, ρ2, e2, q⟩ := hs k y acc ρ (by simpa using hg 0 y rfl) h
      have nxt : ∀ acc2 ρ2, acc2.length ≤ k + 1 → I (k + 1) acc2 ρ2 → LCW tg mt m vs ys acc2 ρ2 QA := fun acc2 ρ2 h1 h2 => ih (k + 1) acc2 ρ2 (fun i x e => by have := hg (i + 1) x (by simpa using e); rw [show k + (i + 1) = k + 1 + i by omega] at this; exact this) (by omega) h1 h2
      refine ⟨ρ1, e1, c, ρ2, e2, ?_⟩
      unfold IFV at q ⊢
      split at q
      · rw [if_pos (by assumption)]
        obtain ⟨d, ρ3, e3, h3, q⟩ := q
        exact ⟨d, ρ3, e3, ⟨by omega, h3⟩, nxt _ _ (by rw [List.length_append, List.length_singleton]; omega) q⟩
      · rw [if_neg (by assumption)]
        exact ⟨q.1, nxt _ _ (by omega) q.2⟩
  exact key xs 0 [] ρ (fun i x e => by rw [Nat.zero_add]; exact e) (by omega) (Nat.zero_le _) h0
theorem wp1 {v : Nat} (q : SETS (ρ.set v .no) N) : WIPE (wipeE ρ [v]) N := q
theorem wp2 {v w : Nat} (q : SETS (ρ.set w .no) fun ρ => SETS (ρ.set v .no) N) : WIPE (wipeE ρ [v, w]) N := q
theorem rs1 {ρ0 : Env} {v : Nat} (l : LK ρ0 v .no) (q : SETS (ρ.set v .no) N) : WIPE (restE ρ0 ρ [v]) N := by
  unfold WIPE restE restE
  rw [show ρ0[v]? = some .no from l]
  exact q
theorem rs1v {ρ0 : Env} {v : Nat} (l : LK ρ0 v (.val d)) (q : SETS (ρ.set v (.val d)) N) : WIPE (restE ρ0 ρ [v]) N := by
  unfold WIPE restE restE
  rw [show ρ0[v]? = some (.val d) from l]
  exact q
theorem rs2 {ρ0 : Env} {v w : Nat} (l : LK ρ0 v .no) (l2 : LK ρ0 w .no) (q : SETS (ρ.set w .no) fun ρ => SETS (ρ.set v .no) N) : WIPE (restE ρ0 ρ [v, w]) N := by
  unfold WIPE restE restE restE
  rw [show ρ0[v]? = some .no from l, show ρ0[w]? = some .no from l2]
  exact q
def LCB (ρ : Env) (vs : List Nat) (N : Env → Prop) : Prop := vs.all (notIo ρ) = true ∧ WIPE (wipeE ρ vs) N
theorem lcb {vs : List Nat} (h : vs.all (notIo ρ) = true) (q : WIPE (wipeE ρ vs) N) : LCB ρ vs N := ⟨h, q⟩
theorem w_lcw {it : MA} {tg : MG} {vs : List Nat} (q : SatA (it ρ) fun xs ρ1 => LCB ρ1 vs fun ρ0 => LCW tg mt m vs xs [] ρ0 fun ds ρ2 => WIPE (restE ρ1 ρ2 vs) fun ρ3 => Q (.list ds) ρ3) : Sat (mLc it tg mt m vs ρ) Q := w_lc q
/-- [f y for y in ys if p y], the slots stay -/
theorem lc_ft {α : Type} {tg : MG} {vs : List Nat} (ys : List α) (enc : α → D) (p : α → Bool) (f : α → D) {xs : List D} (e : xs = ys.map enc) (hl : ys.length < 16777216)
    (hs : ∀ y ∈ ys, TG (tg (enc y) ρ) fun ρ1 => SatT (mt ρ1) fun c ρ2 => c = p y ∧ (p y = true → Sat (m ρ2) fun d ρ3 => d = f y ∧ LCB ρ3 vs fun ρ4 => ρ4 = ρ) ∧ (p y = false → LCB ρ2 vs fun ρ4 => ρ4 = ρ)) (q : QA ((ys.filter p).map f) ρ) : LCW tg mt m vs xs [] ρ QA := by
  subst e
  refine lc_inv (fun i acc ρ' => ρ' = ρ ∧ acc = ((ys.take i).filter p).map f) ⟨rfl, rfl⟩ (by rw [List.length_map]; exact hl) (fun i x acc ρ' hx h => ?_) (fun acc ρ' h => ?_)
  · obtain ⟨rfl, rfl⟩ := h
    rw [List.getElem?_map] at hx
    cases z : ys[i]? with
    | none => rw [z] at hx; cases hx
    | some y =>
      rw [z] at hx
      cases hx
      obtain ⟨ρ1, e1, c, ρ2, e2, rfl, h1, h2⟩ := hs y (List.mem_of_getElem? z)
      refine ⟨ρ1, e1, _, ρ2, e2, ?_⟩
      cases c : p y with
      | true =>
        obtain ⟨d, ρ3, e3, rfl, b, w⟩ := h1 c
        refine ⟨_, ρ3, e3, b, w, ?_⟩
        rw [List.take_add_one, z, List.filter_append, List.map_append]
        show _ = _ ++ (([y].filter p).map f)
        rw [List.filter_cons, if_pos c]
        rfl
      | false =>
        obtain ⟨b, w⟩ := h2 c
        refine ⟨b, w, ?_⟩
        rw [List.take_add_one, z, List.filter_append, List.map_append]
        show _ = _ ++ (([y].filter p).map f)
        rw [List.filter_cons, if_neg (by rw [c]; exact Bool.false_ne_true)]
        simp
  · obtain ⟨rfl, rfl⟩ := h
    rw [List.length_map, List.take_length]
    exact q
/-- [f y for y in ys], the slots stay -/
theorem lc_mt {α : Type} {tg : MG} {vs : List Nat} (ys : List α) (enc : α → D) (f : α → D) {xs : List D} (e : xs = ys.map enc) (hl : ys.length < 16777216)
    (hs : ∀ y ∈ ys, TG (tg (enc y) ρ) fun ρ1 => Sat (m ρ1) fun d ρ3 => d = f y ∧ LCB ρ3 vs fun ρ4 => ρ4 = ρ) (q : QA (ys.map f) ρ) : LCW tg mYes m vs xs [] ρ QA := by
  refine lc_ft ys enc (fun _ => true) f e hl (fun y hy => ?_) (by rw [List.filter_eq_self.mpr (fun _ _ => rfl)]; exact q)
  obtain ⟨ρ1, e1, d, ρ3, e3, h⟩ := hs y hy
  exact ⟨ρ1, e1, true, ρ1, rfl, rfl, fun _ => ⟨d, ρ3, e3, h⟩, fun z => by cases z⟩
/-- a loop over ys, by what holds behind each beginning -/
theorem for_pre {α : Type} {tg : MG} {b : MS} (ys : List α) (enc : α → D) {xs : List D} (e : xs = ys.map enc) (I : List α → Env → Prop) (h0 : I [] ρ) (hs : ∀ pre y post ρ, ys = pre ++ y :: post → I pre ρ → TG (tg (enc y) ρ) fun ρ1 => SatS (b ρ1) (I (pre ++ [y])) Rt N (I (pre ++ [y])) Xp) (hd : ∀ ρ, I ys ρ → N ρ) : FORW tg b xs ρ N Rt Xp := by
  subst e
  refine for_inv (fun i ρ => I (ys.take i) ρ) h0 (fun i x ρ hx h => ?_) (fun ρ h => by rw [List.length_map, List.take_length] at h; exact hd ρ h)
  rw [List.getElem?_map] at hx
  cases z : ys[i]? with
  | none => rw [z] at hx; cases hx
  | some y =>
    rw [z] at hx
    cases hx
    have hi := (List.getElem?_eq_some_iff.mp z).1
    have e : ys = ys.take i ++ y :: ys.drop (i + 1) := by
      have h2 := (List.getElem?_eq_some_iff.mp z).2
      rw [← h2, ← List.drop_eq_getElem_cons hi, List.take_append_drop]
    have := hs (ys.take i) y (ys.drop (i + 1)) ρ e h
    rw [List.take_add_one, z]
    exact this
theorem w_yes (q : QB true ρ) : SatT (mYes ρ) QB := ⟨_, _, rfl, q⟩
def DLS (kms : List (Key × ME)) (ρ : Env) (Q : List (D × D) → Env → Prop) : Prop := ∃ kds ρ1, mDictL kms ρ = .ok (kds, ρ1) ∧ Q kds ρ1
theorem w_dict {kms : List (Key × ME)} (q : DLS kms ρ fun kds ρ1 => Q (.dict (mergeD [] kds)) ρ1) : Sat (mDict kms ρ) Q := by
  obtain ⟨kds, ρ1, e1, q⟩ := q
  exact ⟨_, ρ1, by unfold mDict; rw [e1]; rfl, q⟩
theorem dl_nil {Q : List (D × D) → Env → Prop} (q : Q [] ρ) : DLS [] ρ Q := ⟨_, _, rfl, q⟩
theorem dl_cons {Q : List (D × D) → Env → Prop} {k : Key} {kms : List (Key × ME)} (q : Sat (m ρ) fun d ρ1 => DLS kms ρ1 fun kds ρ2 => Q ((kD k, d) :: kds) ρ2) : DLS ((k, m) :: kms) ρ Q := by
  obtain ⟨d, ρ1, e1, kds, ρ2, e2, q⟩ := q
  exact ⟨_, ρ2, by unfold mDictL; rw [e1]; dsimp only [Res.nx, Res.bind]; rw [e2], q⟩
/-! errors -/
def SatX (r : Res D) (Q : D → Prop) (X : Str → D → Prop) : Prop := match r with
  | .ok d => Q d
  | .exc c d _ => X c d
  | .stuck => False
theorem satX_ok {r : Res D} {v : D} {Q : D → Prop} {X : Str → D → Prop} (h : r = .ok v) (q : Q v) : SatX r Q X := by rw [h]; exact q
theorem w_callXok {f : MF} (q : SatA (mA ms ρ) fun ds ρ1 => SatP (f ds) fun d => Q d ρ1) : Sat (mCallX f ms ρ) Q := by
  obtain ⟨ds, ρ1, e1, d, e2, q⟩ := q
  exact ⟨d, ρ1, by unfold mCallX; rw [e1]; dsimp only [Res.bind]; rw [e2], q⟩
theorem w_retX {f : MF} (q : SatA (mA ms ρ) fun ds ρ1 => SatX (f ds) (fun d => Rt d ρ1) (fun c d => Xp c d ρ1)) : SatS (mRet (mCallX f ms) ρ) N Rt B C Xp := by
  obtain ⟨ds, ρ1, e1, q⟩ := q
  unfold mRet mCallX
  rw [e1]
  dsimp only [Res.bind]
  cases e : f ds <;> rw [e] at q <;> exact q
theorem w_asgX {f : MF} {tg : MG} (q : SatA (mA ms ρ) fun ds ρ1 => SatX (f ds) (fun d => TG (tg d ρ1) N) (fun c d => Xp c d ρ1)) : SatS (mAsg tg (mCallX f ms) ρ) N Rt B C Xp := by
  obtain ⟨ds, ρ1, e1, q⟩ := q
  unfold mAsg mCallX
  rw [e1]
  dsimp only [Res.bind]
  cases e : f ds with
  | ok d =>
    rw [e] at q
    obtain ⟨ρ2, e2, q⟩ := q
    show SatS (oOut (tg d ρ1) .nx) N Rt B C Xp
    rw [e2]
    exact q
  | exc c d ρ' => rw [e] at q; exact q
  | stuck => rw [e] at q; exact q
theorem w_dropX {f : MF} (q : SatA (mA ms ρ) fun ds ρ1 => SatX (f ds) (fun d => N ρ1) (fun c d => Xp c d ρ1)) : SatS (mDrop (mCallX f ms) ρ) N Rt B C Xp := by
  obtain ⟨ds, ρ1, e1, q⟩ := q
  unfold mDrop mCallX
  rw [e1]
  dsimp only [Res.bind]
  cases e : f ds <;> rw [e] at q <;> exact q
theorem w_raise {c : Str} {names : List Str} (q : SatA (mA ms ρ) fun ds ρ1 => Xp c (.dict ((names.zip ds).reverse.map fun q => (.str q.1, q.2))) ρ1) : SatS (mRaise c names ms ρ) N Rt B C Xp := by
  obtain ⟨ds, ρ1, e1, q⟩ := q
  unfold mRaise
  rw [e1]
  exact q
/-- a try whose suite hands g of the error back -/
theorem w_tryF {c : Str} {i : Nat} {g : D → Option D} {mb : MS} (q : SatS (mb ρ) N Rt B C fun c' d ρ' => (c' = c ∧ i < ρ'.length ∧ notIo ρ' i = true) ∧ ∃ z, g d = some z ∧ Rt z (ρ'.set i .no)) : SatS (mTryF c i g mb ρ) N Rt B C Xp := by
  unfold mTryF
  cases e : mb ρ with
  | exc c' d ρ' =>
    rw [e] at q
    obtain ⟨h, z, ez, q⟩ := q
    show SatS (if c' = c ∧ i < ρ'.length ∧ notIo ρ' i = true then (match g d with | some z => .rt z (ρ'.set i .no) | none => .stuck) else .stuck) N Rt B C Xp
    rw [if_pos h, ez]
    exact q
  | nx ρ' => rw [e] at q; exact q
  | rt d ρ' => rw [e] at q; exact q
  | bk ρ' => rw [e] at q; exact q
  | ct ρ' => rw [e] at q; exact q
  | stuck => rw [e] at q; exact q
/-! whole defs -/
theorem run_P {n : Nat} {f : MS} {ds : List D} {Q : D → Prop} (q : SatS (f (envP n ds)) (fun _ => Q .none) (fun d _ => Q d) (fun _ => False) (fun _ => False) (fun _ _ _ => False)) : SatP (runP n f ds) Q := by
  unfold runP
  cases e : f (envP n ds) <;> rw [e] at q <;> first | exact ⟨_, rfl, q⟩ | exact q.elim
def IO (ρ : Env) (Q : D → Prop) : Prop := ∃ d, LK ρ 0 (.io d) ∧ Q d
theorem run_I {n : Nat} {f : MS} {d0 : D} {ds : List D} {Q : D → D → Prop} (q : SatS (f (envI n d0 ds)) (fun ρ => IO ρ (Q .none)) (fun d ρ => IO ρ (Q d)) (fun _ => False) (fun _ => False) (fun _ _ _ => False)) : SatI (runI n f d0 ds) Q := by
  unfold runI
  cases e : f (envI n d0 ds) <;> rw [e] at q <;> first
    | exact q.elim
    | (obtain ⟨d, l, q⟩ := q
       refine ⟨_, _, rfl, ?_⟩
       unfold ioOf
       rw [show _ = some (Sl.io d) from l]
       exact q)
theorem io_of {Q : D → Prop} {r : Env} (q : Q d) : IO (.io d :: r) Q := ⟨d, rfl, q⟩
theorem run_X {n : Nat} {f : MS} {ds : List D} {Q : D → Prop} {X : Str → D → Prop} (q : SatS (f (envP n ds)) (fun _ => Q .none) (fun d _ => Q d) (fun _ => False) (fun _ => False) (fun c d _ => X c d)) : SatX (runP n f ds) Q X := by
  unfold runP
  cases e : f (envP n ds) <;> rw [e] at q <;> first | exact q | exact q.elim
theorem SatP.eq {r : Res D} {v : D} (h : SatP r fun d => d = v) : r = .ok v := by
  obtain ⟨d, e, rfl⟩ := h
  exact e
theorem satP_of {r : Res D} {v : D} {Q : D → Prop} (h : r = .ok v) (q : Q v) : SatP r Q := ⟨v, h, q⟩
/-! values -/
theorem v_add {a b : Int} {Q : D → Prop} (q : Q (.int (a + b))) : VAL (fAdd (.int a) (.int b)) Q := ⟨_, rfl, q⟩
theorem v_sub {a b : Int} {Q : D → Prop} (q : Q (.int (a - b))) : VAL (fSub (.int a) (.int b)) Q := ⟨_, rfl, q⟩
theorem v_mul {a b : Int} {Q : D → Prop} (h : (-18446744073709551616 < a ∧ a < 18446744073709551616) ∨ (-18446744073709551616 < b ∧ b < 18446744073709551616)) (q : Q (.int (a * b))) : VAL (fMul (.int a) (.int b)) Q := ⟨_, by
  show (if cMul a b = true then _ else _) = _
  rw [if_pos (by unfold cMul; simp only [Bool.or_eq_true, Bool.and_eq_true, decide_eq_true_eq]; exact h)], q⟩
theorem v_mulW {a b : Int} {Q : D → Prop} (h : a.natAbs.log2 + b.natAbs.log2 < 1000000) (q : Q (.int (a * b))) : VAL (fMulW (.int a) (.int b)) Q := ⟨_, by
  show (if decide (a.natAbs.log2 + b.natAbs.log2 < 1000000) = true then _ else _) = _
  rw [if_pos (decide_eq_true h)], q⟩
theorem v_div {a b : Int} {Q : D → Prop} (h : 0 < b ∧ b < 18446744073709551616) (q : Q (.int (a / b))) : VAL (fDiv (.int a) (.int b)) Q := ⟨_, by
  show (if (decide (0 < b) && decide (b < 18446744073709551616)) = true then _ else _) = _
  rw [if_pos (by rw [decide_eq_true h.1, decide_eq_true h.2]; rfl)], q⟩
theorem v_mod {a b : Int} {Q : D → Prop} (h : 0 < b) (q : Q (.int (a % b))) : VAL (fMod (.int a) (.int b)) Q := ⟨_, by
  show (if decide (0 < b) = true then _ else _) = _
  rw [if_pos (decide_eq_true h)], q⟩
theorem v_pow {a b : Int} {Q : D → Prop} (h : 0 ≤ b ∧ b ≤ 1000000 ∧ a.natAbs < 18446744073709551616) (q : Q (.int (a ^ b.toNat))) : VAL (fPow (.int a) (.int b)) Q := ⟨_, by
  show (if (decide (0 ≤ b) && decide (b ≤ 1000000) && decide (a.natAbs < 18446744073709551616)) = true then _ else _) = _
  rw [if_pos (by rw [decide_eq_true h.1, decide_eq_true h.2.1, decide_eq_true h.2.2]; rfl)], q⟩
theorem v_neg {a : Int} {Q : D → Prop} (q : Q (.int (-a))) : VAL (fNeg (.int a)) Q := ⟨_, rfl, q⟩
theorem v_lt {a b : Int} {Q : D → Prop} (q : Q (.bool (decide (a < b)))) : VAL (fLt (.int a) (.int b)) Q := ⟨_, rfl, q⟩
theorem v_le {a b : Int} {Q : D → Prop} (q : Q (.bool (decide (a ≤ b)))) : VAL (fLe (.int a) (.int b)) Q := ⟨_, rfl, q⟩
theorem v_gt {a b : Int} {Q : D → Prop} (q : Q (.bool (decide (b < a)))) : VAL (fGt (.int a) (.int b)) Q := ⟨_, rfl, q⟩
theorem v_ge {a b : Int} {Q : D → Prop} (q : Q (.bool (decide (b ≤ a)))) : VAL (fGe (.int a) (.int b)) Q := ⟨_, rfl, q⟩
theorem v_eqI {a b : Int} {Q : D → Prop} (q : Q (.bool (decide (a = b)))) : VAL (fEq (.int a) (.int b)) Q := ⟨_, rfl, q⟩
theorem v_eqS {a b : Str} {Q : D → Prop} (q : Q (.bool (decide (a = b)))) : VAL (fEq (.str a) (.str b)) Q := ⟨_, rfl, q⟩
theorem v_eqB {a b : Bool} {Q : D → Prop} (q : Q (.bool (decide (a = b)))) : VAL (fEq (.bool a) (.bool b)) Q := ⟨_, rfl, q⟩
theorem v_neI {a b : Int} {Q : D → Prop} (q : Q (.bool (!decide (a = b)))) : VAL (fNe (.int a) (.int b)) Q := ⟨_, rfl, q⟩
theorem v_neS {a b : Str} {Q : D → Prop} (q : Q (.bool (!decide (a = b)))) : VAL (fNe (.str a) (.str b)) Q := ⟨_, rfl, q⟩
theorem v_neB {a b : Bool} {Q : D → Prop} (q : Q (.bool (!decide (a = b)))) : VAL (fNe (.bool a) (.bool b)) Q := ⟨_, rfl, q⟩
theorem v_eqNI {a : Int} {Q : D → Prop} (q : Q (.bool false)) : VAL (fEq (.int a) .none) Q := ⟨_, rfl, q⟩
theorem v_neNI {a : Int} {Q : D → Prop} (q : Q (.bool true)) : VAL (fNe (.int a) .none) Q := ⟨_, rfl, q⟩
theorem v_isN {Q : D → Prop} (q : Q (.bool (isNon d))) : VAL (fIsN d .none) Q := ⟨_, by cases d <;> rfl, q⟩
theorem v_notN {Q : D → Prop} (q : Q (.bool (!isNon d))) : VAL (fNotN d .none) Q := ⟨_, by cases d <;> rfl, q⟩
theorem v_eqD {Q : D → Prop} (h1 : okD d = true) (h2 : okD e = true) (q : Q (.bool (PyData.eqv d e))) : VAL (fEqD d e) Q := ⟨_, by unfold fEqD; rw [h1, h2]; rfl, q⟩
theorem v_neD {Q : D → Prop} (h1 : okD d = true) (h2 : okD e = true) (q : Q (.bool (!PyData.eqv d e))) : VAL (fNeD d e) Q := ⟨_, by unfold fNeD; rw [h1, h2]; rfl, q⟩
theorem v_ixL {ds : List D} {i : Int} {Q : D → Prop} (h : atI ds i = some d) (q : Q d) : VAL (fIxL (.list ds) (.int i)) Q := ⟨d, h, q⟩
theorem v_ixT {ds : List D} {i : Int} {Q : D → Prop} (h : atI ds i = some d) (q : Q d) : VAL (fIxT (.tuple ds) (.int i)) Q := ⟨d, h, q⟩
theorem v_lenL {ds : List D} {Q : D → Prop} (q : Q (.int ds.length)) : VAL (cbLen [.list ds]) Q := ⟨_, rfl, q⟩
theorem v_lenT {ds : List D} {Q : D → Prop} (q : Q (.int ds.length)) : VAL (cbLen [.tuple ds]) Q := ⟨_, rfl, q⟩
theorem v_abs {a : Int} {Q : D → Prop} (q : Q (.int (if a < 0 then -a else a))) : VAL (cbAbs [.int a]) Q := ⟨_, rfl, q⟩
theorem v_int {a : Int} {Q : D → Prop} (q : Q (.int a)) : VAL (cbInt [.int a]) Q := ⟨_, rfl, q⟩
theorem v_intB {a : Bool} {Q : D → Prop} (q : Q (.int (if a then 1 else 0))) : VAL (cbInt [.bool a]) Q := ⟨_, rfl, q⟩
theorem v_min2 {a b : Int} {Q : D → Prop} (q : Q (.int (if b < a then b else a))) : VAL (cbMin2 [.int a, .int b]) Q := ⟨_, rfl, q⟩
theorem v_max2 {a b : Int} {Q : D → Prop} (q : Q (.int (if b > a then b else a))) : VAL (cbMax2 [.int a, .int b]) Q := ⟨_, rfl, q⟩
theorem v_tupL {ds : List D} {Q : D → Prop} (q : Q (.tuple ds)) : VAL (cbTup [.list ds]) Q := ⟨_, rfl, q⟩
theorem v_tupT {ds : List D} {Q : D → Prop} (q : Q (.tuple ds)) : VAL (cbTup [.tuple ds]) Q := ⟨_, rfl, q⟩
theorem v_lstL {ds : List D} {Q : D → Prop} (q : Q (.list ds)) : VAL (cbList [.list ds]) Q := ⟨_, rfl, q⟩
theorem v_lstT {ds : List D} {Q : D → Prop} (q : Q (.list ds)) : VAL (cbList [.tuple ds]) Q := ⟨_, rfl, q⟩
theorem v_divmod {a b : Int} {Q : D → Prop} (h : 0 < b ∧ b < 1073741824) (q : Q (.tuple [.int (a / b), .int (a % b)])) : VAL (cbDivmod [.int a, .int b]) Q := ⟨_, by
  show (if (decide (0 < b) && decide (b < 1073741824)) = true then _ else _) = _
  rw [if_pos (by rw [decide_eq_true h.1, decide_eq_true h.2]; rfl)], q⟩
theorem v_catL {a b : List D} {Q : D → Prop} (h : a.length + b.length ≤ 16777216) (q : Q (.list (a ++ b))) : VAL (fCatL (.list a) (.list b)) Q := ⟨_, by
  show (if a.length + b.length ≤ 16777216 then _ else _) = _
  rw [if_pos h], q⟩
theorem v_catT {a b : List D} {Q : D → Prop} (h : a.length + b.length ≤ 16777216) (q : Q (.tuple (a ++ b))) : VAL (fCatT (.tuple a) (.tuple b)) Q := ⟨_, by
  show (if a.length + b.length ≤ 16777216 then _ else _) = _
  rw [if_pos h], q⟩
theorem v_slT {ds : List D} {lo hi : Option Int} {Q : D → Prop} (q : Q (.tuple (cutD ds lo hi))) : VAL (fSlT (.tuple ds) lo hi) Q := ⟨_, rfl, q⟩
theorem v_slL {ds : List D} {lo hi : Option Int} {Q : D → Prop} (q : Q (.list (cutD ds lo hi))) : VAL (fSlL (.list ds) lo hi) Q := ⟨_, rfl, q⟩
theorem v_sum {ns : List Int} {Q : D → Prop} (q : Q (.int ns.sum)) : VAL (cbSum [.list (ns.map .int)]) Q := ⟨_, by show (intsD (ns.map .int)).map _ = _; rw [intsD_map]; rfl, q⟩
theorem v_any {bs : List Bool} {Q : D → Prop} (q : Q (.bool (bs.any id))) : VAL (cbAny [.list (bs.map .bool)]) Q := ⟨_, by show (boolsD (bs.map .bool)).map _ = _; rw [boolsD_map]; rfl, q⟩
theorem v_all {bs : List Bool} {Q : D → Prop} (q : Q (.bool (bs.all id))) : VAL (cbAll [.list (bs.map .bool)]) Q := ⟨_, by show (boolsD (bs.map .bool)).map _ = _; rw [boolsD_map]; rfl, q⟩
theorem v_sorted {ns : List Int} {Q : D → Prop} (h : ns.length < 64) (q : Q (.list ((sortI ns).map .int))) : VAL (cbSorted [.list (ns.map .int)]) Q := ⟨_, by
  show (intsD (ns.map .int)).bind _ = _
  rw [intsD_map]
  show (if ns.length < 64 then _ else _) = _
  rw [if_pos h], q⟩
theorem if_t {A B : Prop} (q : A) : IFV true A B := by unfold IFV; rw [if_pos rfl]; exact q
theorem if_f {A B : Prop} (q : B) : IFV false A B := by unfold IFV; rw [if_neg Bool.false_ne_true]; exact q
theorem if_nt {A B : Prop} (q : B) : IFV (!true) A B := if_f q
theorem if_nf {A B : Prop} (q : A) : IFV (!false) A B := if_t q
theorem if_p {c A B : Prop} [Decidable c] (h : c) (q : A) : IFV (decide c) A B := by rw [decide_eq_true h]; exact if_t q
theorem if_m {c A B : Prop} [Decidable c] (h : ¬ c) (q : B) : IFV (decide c) A B := by rw [decide_eq_false h]; exact if_f q
theorem if_np {c A B : Prop} [Decidable c] (h : c) (q : B) : IFV (!decide c) A B := by rw [decide_eq_true h]; exact if_f q
theorem if_nm {c A B : Prop} [Decidable c] (h : ¬ c) (q : A) : IFV (!decide c) A B := by rw [decide_eq_false h]; exact if_t q
theorem if_n1 {A B : Prop} (q : A) : IFV (isNon .none) A B := if_t q
theorem if_n2 {A B : Prop} {i : Int} (q : B) : IFV (isNon (.int i)) A B := if_f q
theorem if_n3 {A B : Prop} (q : B) : IFV (!isNon .none) A B := if_f q
theorem if_n4 {A B : Prop} {i : Int} (q : A) : IFV (!isNon (.int i)) A B := if_t q
theorem if_n5 {A B : Prop} {i : List D} (q : B) : IFV (isNon (.tuple i)) A B := if_f q
theorem if_n6 {A B : Prop} {i : List D} (q : A) : IFV (!isNon (.tuple i)) A B := if_t q
theorem if_split {b : Bool} {A B : Prop} (h1 : b = true → A) (h2 : b = false → B) : IFV b A B := by
  cases b with
  | true => exact if_t (h1 rfl)
  | false => exact if_f (h2 rfl)
theorem if_c {c A B : Prop} [Decidable c] (h1 : c → A) (h2 : ¬ c → B) : IFV (decide c) A B := by
  by_cases h : c
  · exact if_p h (h1 h)
  · exact if_m h (h2 h)
theorem if_nc {c A B : Prop} [Decidable c] (h1 : c → B) (h2 : ¬ c → A) : IFV (!decide c) A B := by
  by_cases h : c
  · exact if_np h (h1 h)
  · exact if_nm h (h2 h)
end
end Mi

set_option Elab.async false
set_option linter.all false
set_option maxRecDepth 100000
namespace Mi
open PySem hiding Env ret
open PySem.Spec PyProof.Rows L2
/-! what every law's own script reader comes to -/
def ISI (n : String) (d : D) (N : Bool → Prop) : Prop := ∃ b, isiD n d = some b ∧ N b
def m__law_start : MS :=
  (mRet (mDict [(.inr "cells", (mLc (itL (mVar 0)) (gN 1) mYes (mCB cbAbs [(mCB cbInt [(mVar 1)])]) [1])), (.inr "at", (mC (.int (0)))), (.inr "left", (mC (.int (0)))), (.inr "mix", (mOp fAdd (mC (.int (7))) (mCB cbLen [(mVar 0)])))]))
def m__law_draw : MS :=
  (mSeq (mIfS (mAndT (mB (mOp fEq (mGetV 0 (mC (.str "left"))) (mC (.int (0))))) (mB (mOp fLt (mGetV 0 (mC (.str "at"))) (mCB cbLen [(mGetV 0 (mC (.str "cells")))])))) (mSeq (mSet 2 (mOp fIxL (mGetV 0 (mC (.str "cells"))) (mGetV 0 (mC (.str "at")))))
  (mSeq (mPutO 0 (mC (.str "at")) (mOp fAdd (mGetV 0 (mC (.str "at"))) (mC (.int (1)))))
  (mSeq (mPutO 0 (mC (.str "mix")) (mOp fMod (mCB cbInt [(mOp fAdd (mOp fAdd (mOp fMul (mGetV 0 (mC (.str "mix"))) (mC (.int (48271)))) (mVar 2)) (mC (.int (11))))]) (mC (.int (2147483647)))))
  (mSeq (mIfS (mB (mOp fLt (mVar 2) (mOp fPow (mC (.int (10))) (mC (.int (18)))))) (mRet (mOp fMod (mCB cbInt [(mVar 2)]) (mVar 1))) mNext)
  (mPutO 0 (mC (.str "left")) (mVar 2)))))) mNext)
  (mSeq (mIfS (mB (mOp fGt (mGetV 0 (mC (.str "left"))) (mC (.int (0))))) (mSeq (mSet 3 (mOp fMod (mCB cbInt [(mGetV 0 (mC (.str "left")))]) (mVar 1)))
  (mSeq (mPutO 0 (mC (.str "left")) (mOp fDiv (mGetV 0 (mC (.str "left"))) (mVar 1)))
  (mRet (mVar 3)))) mNext)
  (mSeq (mPutO 0 (mC (.str "mix")) (mOp fMod (mCB cbInt [(mOp fAdd (mOp fMul (mGetV 0 (mC (.str "mix"))) (mC (.int (48271)))) (mC (.int (11))))]) (mC (.int (2147483647)))))
  (mRet (mOp fMod (mCB cbInt [(mOp fMod (mCB cbInt [(mOp fAdd (mOp fMul (mGetV 0 (mC (.str "mix"))) (mC (.int (69621)))) (mC (.int (5))))]) (mC (.int (2147483629))))]) (mVar 1))))))
def m__law_pick : MS :=
  (mRet (mOp fIxL (mVar 1) (mCallI (runI 4 m__law_draw) 0 [(mCB cbLen [(mVar 1)])])))
def m__law_is_number : MS :=
  (mRet (mAndV (mIsi "int" (mVar 0)) (mNotV (mIsi "bool" (mVar 0)))))
def m__law_is : MS :=
  (mRet (mAndV (mIsi "bool" (mVar 0)) (mOp fEq (mVar 0) (mVar 1))))
/-! the walk over mirrors -/
local macro_rules | `(tactic| walk_at "lk") => `(tactic| first | exact Mi.lk0 | exact Mi.lk1 | exact Mi.lk2 | exact Mi.lk3 | exact Mi.lk4 | exact Mi.lk5 | exact Mi.lk6 | exact Mi.lk7 | exact Mi.lk8 | exact Mi.lk9 | exact Mi.lk10 | exact Mi.lk11 | exact Mi.lk12 | exact Mi.lk13 | exact Mi.lk14 | exact Mi.lk15 | exact Mi.lk16 | exact Mi.lk17 | exact Mi.lk18 | exact Mi.lk19 | exact Mi.lk20 | exact Mi.lk21 | exact Mi.lk22 | exact Mi.lk23 | exact Mi.lk24 | exact Mi.lk25 | exact Mi.lk26 | exact Mi.lk27 | exact Mi.lk28 | exact Mi.lk29 | exact Mi.lk30 | exact Mi.lk31 | exact Mi.lk32 | exact Mi.lk33 | exact Mi.lk34 | exact Mi.lk35 | exact Mi.lk36 | exact Mi.lk37 | exact Mi.lk38 | exact Mi.lk39)
local macro_rules | `(tactic| walk_at "st") => `(tactic| first | with_reducible apply Mi.st0 | with_reducible apply Mi.st1 | with_reducible apply Mi.st2 | with_reducible apply Mi.st3 | with_reducible apply Mi.st4 | with_reducible apply Mi.st5 | with_reducible apply Mi.st6 | with_reducible apply Mi.st7 | with_reducible apply Mi.st8 | with_reducible apply Mi.st9 | with_reducible apply Mi.st10 | with_reducible apply Mi.st11 | with_reducible apply Mi.st12 | with_reducible apply Mi.st13 | with_reducible apply Mi.st14 | with_reducible apply Mi.st15 | with_reducible apply Mi.st16 | with_reducible apply Mi.st17 | with_reducible apply Mi.st18 | with_reducible apply Mi.st19 | with_reducible apply Mi.st20 | with_reducible apply Mi.st21 | with_reducible apply Mi.st22 | with_reducible apply Mi.st23 | with_reducible apply Mi.st24 | with_reducible apply Mi.st25 | with_reducible apply Mi.st26 | with_reducible apply Mi.st27 | with_reducible apply Mi.st28 | with_reducible apply Mi.st29 | with_reducible apply Mi.st30 | with_reducible apply Mi.st31 | with_reducible apply Mi.st32 | with_reducible apply Mi.st33 | with_reducible apply Mi.st34 | with_reducible apply Mi.st35 | with_reducible apply Mi.st36 | with_reducible apply Mi.st37 | with_reducible apply Mi.st38 | with_reducible apply Mi.st39)
local macro_rules | `(tactic| walk_at "at") => `(tactic| first | with_reducible assumption | exact Rd.at0 | exact Rd.at1 | exact Rd.at2 | exact Rd.at3 | exact Rd.at4)
local macro_rules | `(tactic| walk_at "side") => `(tactic| first | with_reducible assumption | omega | (constructor <;> omega) | (refine Or.inl ⟨?_, ?_⟩ <;> omega) | (refine Or.inr ⟨?_, ?_⟩ <;> omega) | (simp only [List.length_cons, List.length_nil, List.length_append, List.length_map]; omega) | ((refine ⟨⟨?_, ?_⟩, ?_, ?_⟩) <;> omega))
local macro_rules | `(tactic| walk_at "fn") => `(tactic| fail)
local macro_rules | `(tactic| walk_at "w1") => `(tactic| first
  | ((with_reducible show Mi.SatS _ _ _ _ _ _); (first | with_reducible apply Mi.w_seq | with_reducible apply Mi.w_retX | with_reducible apply Mi.w_asgX | with_reducible apply Mi.w_dropX | with_reducible apply Mi.w_raise | with_reducible apply Mi.w_asg | with_reducible apply Mi.w_ifS | with_reducible apply Mi.w_drop | with_reducible apply Mi.w_ret | with_reducible apply Mi.w_next | with_reducible apply Mi.w_for | with_reducible apply Mi.w_retN | with_reducible apply Mi.w_brk | with_reducible apply Mi.w_cnt | with_reducible apply Mi.w_while | with_reducible apply Mi.w_setO))
  | ((with_reducible show Mi.Sat _ _); (first | ((with_reducible apply Mi.w_val); (walk_at "lk")) | with_reducible apply Mi.w_c | with_reducible apply Mi.w_op | with_reducible apply Mi.w_call | with_reducible apply Mi.w_callI | with_reducible apply Mi.w_tup | with_reducible apply Mi.w_getV | with_reducible apply Mi.w_ixV | ((with_reducible apply Mi.w_pkv); (walk_at "lk")) | with_reducible apply Mi.w_peek | with_reducible apply Mi.w_cb | with_reducible apply Mi.w_lst | with_reducible apply Mi.w_un | ((with_reducible apply Mi.w_own); (walk_at "lk")) | with_reducible apply Mi.w_andV | with_reducible apply Mi.w_orV | with_reducible apply Mi.w_notV | with_reducible apply Mi.w_if | with_reducible apply Mi.w_chain | with_reducible apply Mi.w_sl | with_reducible apply Mi.w_get | with_reducible apply Mi.w_d0 | with_reducible apply Mi.w_dict | with_reducible apply Mi.w_tupS | with_reducible apply Mi.w_app | with_reducible apply Mi.w_lcw | ((with_reducible apply Mi.w_lenO); (walk_at "lk")) | ((with_reducible apply Mi.w_lenv); (walk_at "lk"))))
  | ((with_reducible show Mi.SatT _ _); (first | with_reducible apply Mi.w_B | with_reducible apply Mi.w_andT | with_reducible apply Mi.w_orT | with_reducible apply Mi.w_notT | with_reducible apply Mi.w_yes))
  | ((with_reducible show Mi.SatA _ _); (first | with_reducible apply Mi.w_nil | with_reducible apply Mi.w_cons | with_reducible apply Mi.w_snil | with_reducible apply Mi.w_sone | with_reducible apply Mi.w_sstar | with_reducible apply Mi.w_r1 | with_reducible apply Mi.w_r2 | with_reducible apply Mi.w_itL1 | with_reducible apply Mi.w_itT1))
  | ((with_reducible show Mi.VAL _ _); (first | with_reducible apply Mi.v_add | with_reducible apply Mi.v_sub | with_reducible apply Mi.v_eqI | with_reducible apply Mi.v_lt | with_reducible apply Mi.v_le | with_reducible apply Mi.v_gt | with_reducible apply Mi.v_ge | with_reducible apply Mi.v_neI | ((with_reducible apply Mi.v_ixL); (walk_at "at")) | ((with_reducible apply Mi.v_ixT); (walk_at "at")) | ((with_reducible apply Mi.v_mul); (walk_at "side")) | ((with_reducible apply Mi.v_div); (walk_at "side")) | ((with_reducible apply Mi.v_mod); (walk_at "side")) | with_reducible apply Mi.v_neg | with_reducible apply Mi.v_eqS | with_reducible apply Mi.v_eqB | with_reducible apply Mi.v_neS | with_reducible apply Mi.v_neB | with_reducible apply Mi.v_eqNI | with_reducible apply Mi.v_neNI | with_reducible apply Mi.v_isN | with_reducible apply Mi.v_notN | with_reducible apply Mi.v_lenL | with_reducible apply Mi.v_lenT | with_reducible apply Mi.v_abs | with_reducible apply Mi.v_int | with_reducible apply Mi.v_intB | with_reducible apply Mi.v_min2 | with_reducible apply Mi.v_max2 | with_reducible apply Mi.v_tupL | with_reducible apply Mi.v_tupT | with_reducible apply Mi.v_lstL | with_reducible apply Mi.v_lstT | with_reducible apply Mi.v_slT | with_reducible apply Mi.v_slL | ((with_reducible apply Mi.v_pow); (decide)) | ((with_reducible apply Mi.v_catL); (walk_at "side")) | ((with_reducible apply Mi.v_catT); (walk_at "side")) | ((with_reducible apply Mi.v_divmod); (walk_at "side")) | walk_at "fn"))
  | ((with_reducible show Mi.IFV _ _ _); (first | with_reducible apply Mi.if_t | with_reducible apply Mi.if_f | with_reducible apply Mi.if_nt | with_reducible apply Mi.if_nf | with_reducible apply Mi.if_n1 | with_reducible apply Mi.if_n2 | with_reducible apply Mi.if_n3 | with_reducible apply Mi.if_n4 | with_reducible apply Mi.if_n5 | with_reducible apply Mi.if_n6))
  | ((with_reducible show Mi.SETS _ _); (first | walk_at "st" | ((with_reducible apply Mi.put_own); (walk_at "lk")) | ((with_reducible apply Mi.put_io); (walk_at "lk"))))
  | ((with_reducible show Mi.TG _ _); (first | ((with_reducible apply Mi.tg_n); (exact rfl)) | ((with_reducible apply Mi.tg_t); (exact rfl))))
  | ((with_reducible show Mi.TGS _ _); (first | with_reducible apply Mi.tgs_cons | with_reducible apply Mi.tgs_nil))
  | ((with_reducible apply Mi.lcb); (exact rfl))
  | with_reducible apply Mi.wp1
  | with_reducible apply Mi.wp2
  | ((with_reducible apply Mi.rs1); (walk_at "lk"))
  | ((with_reducible apply Mi.rs1v); (walk_at "lk"))
  | ((with_reducible apply Mi.seto); (exact rfl))
  | with_reducible apply Mi.isl
  | ((with_reducible apply Mi.app_); (walk_at "side"))
  | ((with_reducible apply Mi.leq); (walk_at "side"))
  | with_reducible apply Mi.isls
  | with_reducible apply Mi.ists
  | ((with_reducible apply Mi.r1_); (walk_at "side"))
  | ((with_reducible apply Mi.r2_); (walk_at "side"))
  | with_reducible apply Mi.prt
  | with_reducible apply Mi.w_part
  | with_reducible apply Mi.bl_
  | ((with_reducible apply Mi.mu_own); (walk_at "lk"))
  | ((with_reducible apply Mi.mu_io); (walk_at "lk"))
  | with_reducible apply Mi.dl_cons
  | with_reducible apply Mi.dl_nil
  | with_reducible apply Mi.w_none
  | with_reducible apply Mi.io_of
  | with_reducible apply Mi.w_itT
  | with_reducible apply Mi.w_itL
  | walk_at "fn")
local macro_rules | `(tactic| walk_at "w") => `(tactic| repeat (walk_at "w1"))
local macro_rules | `(tactic| walk_at "wd") => `(tactic| first
  | ((with_reducible apply Mi.if_p); (first | with_reducible assumption | exact rfl | decide | omega))
  | ((with_reducible apply Mi.if_m); (first | with_reducible assumption | exact rfl | decide | omega))
  | ((with_reducible apply Mi.if_np); (first | with_reducible assumption | exact rfl | decide | omega))
  | ((with_reducible apply Mi.if_nm); (first | with_reducible assumption | exact rfl | decide | omega)))
local macro_rules | `(tactic| walk_at "mo") => `(tactic| (walk_at "w"; (repeat (walk_at "wd"; walk_at "w"))))
local macro_rules | `(tactic| walk_at "env") => `(tactic| simp only [envP, envI, List.map_cons, List.map_nil, List.length_cons, List.length_nil, List.replicate, List.cons_append, List.nil_append, Nat.reduceAdd, Nat.reduceSub])

/-! the draws -/
def tape (cs : List Int) (a l m : Int) : D := .dict [(.str "cells", .list (cs.map .int)), (.str "at", .int a), (.str "left", .int l), (.str "mix", .int m)]
def TapeOk (T : D) : Prop := ∃ (cs : List Int) (a l m : Int), T = tape cs a l m ∧ 0 ≤ a ∧ 0 ≤ l ∧ 0 ≤ m ∧ m < 2147483648 ∧ ∀ x ∈ cs, 0 ≤ x
theorem t_left {cs : List Int} {a l m : Int} {Q : D → Prop} (q : Q (.int l)) : VAL (fGetD (tape cs a l m) (.str "left")) Q := ⟨_, by rfl, q⟩
theorem t_at {cs : List Int} {a l m : Int} {Q : D → Prop} (q : Q (.int a)) : VAL (fGetD (tape cs a l m) (.str "at")) Q := ⟨_, by rfl, q⟩
theorem t_mix {cs : List Int} {a l m : Int} {Q : D → Prop} (q : Q (.int m)) : VAL (fGetD (tape cs a l m) (.str "mix")) Q := ⟨_, by rfl, q⟩
theorem t_cells {cs : List Int} {a l m : Int} {Q : D → Prop} (q : Q (.list (cs.map .int))) : VAL (fGetD (tape cs a l m) (.str "cells")) Q := ⟨_, by rfl, q⟩
theorem p_at {mk mv : ME} {cs : List Int} {a l m : Int} {r : Env} {N : Env → Prop} {Rt : D → Env → Prop} {B C : Env → Prop} {Xp : Str → D → Env → Prop} {v : Int}
    (q1 : Sat (mv (.io (tape cs a l m) :: r)) fun d ρ => d = .int v ∧ ρ = .io (tape cs a l m) :: r) (q : N (.io (tape cs v l m) :: r)) : SatS (mPutO 0 (mC (.str "at")) mv (.io (tape cs a l m) :: r)) N Rt B C Xp := by
  obtain ⟨d, ρ, e, rfl, rfl⟩ := q1
  exact w_putO ⟨_, _, e, _, rfl, _, _, rfl, _, rfl, _, .inr "at", rfl, rfl, (by show 4 < 16777216; decide), q⟩
theorem p_left {mk mv : ME} {cs : List Int} {a l m : Int} {r : Env} {N : Env → Prop} {Rt : D → Env → Prop} {B C : Env → Prop} {Xp : Str → D → Env → Prop} {v : Int}
    (q1 : Sat (mv (.io (tape cs a l m) :: r)) fun d ρ => d = .int v ∧ ρ = .io (tape cs a l m) :: r) (q : N (.io (tape cs a v m) :: r)) : SatS (mPutO 0 (mC (.str "left")) mv (.io (tape cs a l m) :: r)) N Rt B C Xp := by
  obtain ⟨d, ρ, e, rfl, rfl⟩ := q1
  exact w_putO ⟨_, _, e, _, rfl, _, _, rfl, _, rfl, _, .inr "left", rfl, rfl, (by show 4 < 16777216; decide), q⟩
theorem p_mix {mk mv : ME} {cs : List Int} {a l m : Int} {r : Env} {N : Env → Prop} {Rt : D → Env → Prop} {B C : Env → Prop} {Xp : Str → D → Env → Prop} {v : Int}
    (q1 : Sat (mv (.io (tape cs a l m) :: r)) fun d ρ => d = .int v ∧ ρ = .io (tape cs a l m) :: r) (q : N (.io (tape cs a l v) :: r)) : SatS (mPutO 0 (mC (.str "mix")) mv (.io (tape cs a l m) :: r)) N Rt B C Xp := by
  obtain ⟨d, ρ, e, rfl, rfl⟩ := q1
  exact w_putO ⟨_, _, e, _, rfl, _, _, rfl, _, rfl, _, .inr "mix", rfl, rfl, (by show 4 < 16777216; decide), q⟩
local macro_rules | `(tactic| walk_at "fn") => `(tactic| first | with_reducible apply t_left | with_reducible apply t_at | with_reducible apply t_mix | with_reducible apply t_cells)
set_option maxHeartbeats 4000000 in
theorem draw_ok {T : D} {b : Int} {Q : D → D → Prop} (h : TapeOk T) (h0 : 0 < b) (h1 : b < 18446744073709551616) (q : ∀ n T', 0 ≤ n → n < b → TapeOk T' → Q (.int n) T') : SatI (runI 4 m__law_draw T [.int b]) Q := by
  obtain ⟨cs, a, l, m, rfl, ha, hl, hm0, hm1, hcs⟩ := h
  refine run_I ?_
  walk_at "env"
  unfold m__law_draw
  have mx : ∀ x : Int, 0 ≤ x % 2147483647 ∧ x % 2147483647 < 2147483648 := fun x => ⟨Int.emod_nonneg _ (by decide), by have := Int.emod_lt_of_pos x (show (0 : Int) < 2147483647 by decide); omega⟩
  have fin : ∀ n cs a l m, 0 ≤ a → 0 ≤ l → 0 ≤ m → m < 2147483648 → (∀ x ∈ cs, 0 ≤ x) → Q (.int (n % b)) (tape cs a l m) := fun n cs a l m h2 h3 h4 h5 h6 => q _ _ (Int.emod_nonneg _ (by omega)) (Int.emod_lt_of_pos _ h0) ⟨cs, a, l, m, rfl, h2, h3, h4, h5, h6⟩
  by_cases l0 : l = 0
  · subst l0
    by_cases hin : a < ((cs.map PyData.int).length : Int)
    · obtain ⟨z, hz, hz0⟩ : ∃ z, atI (cs.map PyData.int) a = some (.int z) ∧ 0 ≤ z := by
        have e : ((a.toNat : Nat) : Int) = a := by omega
        have hlt : a.toNat < cs.length := by rw [List.length_map] at hin; omega
        have h2 : atI (cs.map PyData.int) ((a.toNat : Nat) : Int) = some (.int cs[a.toNat]) := atI_nat (by rw [List.getElem?_map, List.getElem?_eq_getElem hlt]; rfl)
        rw [e] at h2
        exact ⟨cs[a.toNat], h2, hcs _ (List.getElem_mem hlt)⟩
      by_cases hb : z < 1000000000000000000
      · walk_at "mo"
        refine p_at (mk := mC .none) (v := a + 1) (by walk_at "mo"; exact ⟨rfl, rfl⟩) ?_
        walk_at "mo"
        refine p_mix (mk := mC .none) (v := (m * 48271 + z + 11) % 2147483647) (by walk_at "mo"; exact ⟨rfl, rfl⟩) ?_
        walk_at "mo"
        rw [show (10 : Int) ^ Int.toNat 18 = 1000000000000000000 by decide]
        walk_at "mo"
        exact fin _ _ _ _ _ (by omega) (by omega) (mx _).1 (mx _).2 hcs
      · walk_at "mo"
        refine p_at (mk := mC .none) (v := a + 1) (by walk_at "mo"; exact ⟨rfl, rfl⟩) ?_
        walk_at "mo"
        refine p_mix (mk := mC .none) (v := (m * 48271 + z + 11) % 2147483647) (by walk_at "mo"; exact ⟨rfl, rfl⟩) ?_
        walk_at "mo"
        rw [show (10 : Int) ^ Int.toNat 18 = 1000000000000000000 by decide]
        walk_at "mo"
        refine p_left (mk := mC .none) (v := z) (by walk_at "mo"; exact ⟨rfl, rfl⟩) ?_
        walk_at "mo"
        refine p_left (mk := mC .none) (v := z / b) (by walk_at "mo"; exact ⟨rfl, rfl⟩) ?_
        walk_at "mo"
        exact fin _ _ _ _ _ (by omega) (Int.ediv_nonneg hz0 (by omega)) (mx _).1 (mx _).2 hcs
    · walk_at "mo"
      refine p_mix (mk := mC .none) (v := (m * 48271 + 11) % 2147483647) (by walk_at "mo"; exact ⟨rfl, rfl⟩) ?_
      walk_at "mo"
      exact fin _ _ _ _ _ ha (by omega) (mx _).1 (mx _).2 hcs
  · walk_at "mo"
    refine p_left (mk := mC .none) (v := l / b) (by walk_at "mo"; exact ⟨rfl, rfl⟩) ?_
    walk_at "mo"
    exact fin _ _ _ _ _ ha (Int.ediv_nonneg hl (by omega)) hm0 hm1 hcs

theorem draw_go {T : D} {b : Int} {Q : D → D → Prop} (h : TapeOk T) (h0 : 0 < b) (h1 : b < 18446744073709551616) (q : ∀ n T', 0 ≤ n → n < b → TapeOk T' → Q (.int n) T') : SatI (runI 4 m__law_draw T [.int b]) Q := draw_ok h h0 h1 q
theorem pick_go {T : D} {ds : List D} {Q : D → D → Prop} (h : TapeOk T) (h0 : 0 < ds.length) (h1 : ds.length < 1000000) (q : ∀ d T', d ∈ ds → TapeOk T' → Q d T') : SatI (runI 2 m__law_pick T [.list ds]) Q := by
  refine run_I ?_
  walk_at "env"
  unfold m__law_pick
  walk_at "mo"
  refine draw_ok h (by omega) (by omega) fun n T' n0 n1 h' => ?_
  have hlt : n.toNat < ds.length := by omega
  have hz : atI ds n = some ds[n.toNat] := by
    have e : ((n.toNat : Nat) : Int) = n := by omega
    have h2 : atI ds ((n.toNat : Nat) : Int) = some ds[n.toNat] := atI_nat (List.getElem?_eq_getElem hlt)
    rw [e] at h2
    exact h2
  walk_at "mo"
  exact q _ _ (List.getElem_mem hlt) h'
/-- a pick of ints -/
theorem pickI_go {T : D} {ds : List D} {Q : D → D → Prop} (ks : List Int) (lo hi : Int) (h : TapeOk T) (e : ds = ks.map .int) (h0 : 0 < ks.length) (h1 : ks.length < 1000000) (hb : ∀ k ∈ ks, lo ≤ k ∧ k ≤ hi) (q : ∀ k T', k ∈ ks → lo ≤ k → k ≤ hi → TapeOk T' → Q (.int k) T') : SatI (runI 2 m__law_pick T [.list ds]) Q := by
  subst e
  refine pick_go h (by rw [List.length_map]; exact h0) (by rw [List.length_map]; exact h1) fun d T' hd h' => ?_
  obtain ⟨k, hk, rfl⟩ := List.mem_map.mp hd
  exact q k T' hk (hb k hk).1 (hb k hk).2 h'
theorem start_go {ns : List Int} {Q : D → Prop} (hl : ns.length ≤ 63) (q : ∀ T, TapeOk T → Q T) : SatP (runP 2 m__law_start [scr ns]) Q := by
  refine run_P ?_
  walk_at "env"
  unfold m__law_start
  refine w_ret ?_
  refine w_dict ?_
  refine dl_cons ?_
  refine w_lcw ?_
  refine w_itScr (lk0) ?_
  walk_at "mo"
  refine lc_mt ns .int (fun z => .int (if z < 0 then -z else z)) rfl (by omega) (fun y _ => ?_) ?_
  · walk_at "mo"
    refine ⟨rfl, ?_⟩
    walk_at "mo"
    rfl
  · walk_at "mo"
    refine ⟨.int (ns.map PyData.int).length, by rfl, ?_⟩
    walk_at "mo"
    refine q _ ⟨ns.map fun z => if z < 0 then -z else z, 0, 0, 7 + ((ns.map PyData.int).length : Int), ?_, by omega, by omega, by omega, by rw [List.length_map]; omega, fun x hx => ?_⟩
    · unfold tape
      rw [List.map_map]
      rfl
    · obtain ⟨z, _, rfl⟩ := List.mem_map.mp hx
      split <;> omega
theorem isi_bb {b : Bool} : isiD "bool" (.bool b) = some true := by show kitB "bool" "bool" = _; decide +kernel
theorem isi_bi {b : Int} : isiD "bool" (.int b) = some false := by show kitB "int" "bool" = _; decide +kernel
theorem isi_ib {b : Bool} : isiD "int" (.bool b) = some true := by show kitB "bool" "int" = _; decide +kernel
theorem isi_ii {b : Int} : isiD "int" (.int b) = some true := by show kitB "int" "int" = _; decide +kernel
theorem isi_ll {b : List D} : isiD "list" (.list b) = some true := by show kitB "list" "list" = _; decide +kernel
theorem isi_tt {b : List D} : isiD "tuple" (.tuple b) = some true := by show kitB "tuple" "tuple" = _; decide +kernel
theorem isi_tl {b : List D} : isiD "tuple" (.list b) = some false := by show kitB "list" "tuple" = _; decide +kernel
theorem isi_lt {b : List D} : isiD "list" (.tuple b) = some false := by show kitB "tuple" "list" = _; decide +kernel
theorem isi_ti {b : Int} : isiD "tuple" (.int b) = some false := by show kitB "int" "tuple" = _; decide +kernel
theorem isi_ts {b : Str} : isiD "tuple" (.str b) = some false := by show kitB "str" "tuple" = _; decide +kernel
theorem isi_ss {b : Str} : isiD "str" (.str b) = some true := by show kitB "str" "str" = _; decide +kernel
theorem isi_st {b : List D} : isiD "str" (.tuple b) = some false := by show kitB "tuple" "str" = _; decide +kernel
theorem isi_is {b : Str} : isiD "int" (.str b) = some false := by show kitB "str" "int" = _; decide +kernel
theorem isi_it {b : List D} : isiD "int" (.tuple b) = some false := by show kitB "tuple" "int" = _; decide +kernel
theorem w_isiE {ρ : Env} {m : ME} {n : String} {Q : D → Env → Prop} (q : Sat (m ρ) fun d ρ1 => ISI n d fun b => Q (.bool b) ρ1) : Sat (mIsi n m ρ) Q := w_isi q
theorem is_go {a b : Bool} {Q : D → Prop} (q : Q (.bool (decide (a = b)))) : SatP (runP 2 m__law_is [.bool a, .bool b]) Q := by
  refine run_P ?_
  walk_at "env"
  unfold m__law_is
  walk_at "mo"
  refine w_isiE ?_
  walk_at "mo"
  refine ⟨_, isi_bb, ?_⟩
  walk_at "mo"
  exact q
theorem isnum_go {a : Int} {Q : D → Prop} (q : Q (.bool true)) : SatP (runP 1 m__law_is_number [.int a]) Q := by
  refine run_P ?_
  walk_at "env"
  unfold m__law_is_number
  walk_at "mo"
  refine w_isiE ?_
  walk_at "mo"
  refine ⟨_, isi_ii, ?_⟩
  walk_at "mo"
  refine w_isiE ?_
  walk_at "mo"
  refine ⟨_, isi_bi, ?_⟩
  walk_at "mo"
  exact q
theorem atI_none {α : Type} {xs : List α} : True := trivial
end Mi

set_option Elab.async false
set_option linter.all false
set_option maxRecDepth 100000
namespace Mi
open PySem hiding Env ret
open PySem.Spec PyProof.Rows L2
/-! == of plain data -/
def Pn (n : Nat) (d : D) : Prop := nodic d = true ∧ d.canLay0 = true ∧ d.depth ≤ n
def PnA (n : Nat) (ds : List D) : Prop := nodicA ds = true ∧ PyData.canLayAll0 ds = true ∧ PyData.depthAll ds ≤ n
theorem pn_int {n : Nat} {i : Int} : Pn n (.int i) := ⟨rfl, by simp [PyData.canLay0], by simp [PyData.depth]⟩
theorem pn_bool {n : Nat} {i : Bool} : Pn n (.bool i) := ⟨rfl, by simp [PyData.canLay0], by simp [PyData.depth]⟩
theorem pn_none {n : Nat} : Pn n .none := ⟨rfl, by simp [PyData.canLay0], by simp [PyData.depth]⟩
theorem pn_str {n : Nat} {x : Str} (h : PyData.strOk x = true) : Pn n (.str x) := ⟨rfl, by simp [PyData.canLay0, h], by simp [PyData.depth]⟩
theorem pna_nil {n : Nat} : PnA n [] := ⟨rfl, by simp [PyData.canLayAll0], by simp [PyData.depthAll]⟩
theorem pna_cons {n : Nat} {x : D} {xs : List D} (h : Pn n x) (t : PnA n xs) : PnA n (x :: xs) := ⟨by simp [nodicA, h.1, t.1], by simp [PyData.canLayAll0, h.2.1, t.2.1], by
  have h1 := h.2.2
  have h2 := t.2.2
  simp only [PyData.depthAll]
  omega⟩
theorem pna_all {n : Nat} : ∀ {xs : List D}, (∀ x ∈ xs, Pn n x) → PnA n xs
  | [], _ => pna_nil
  | x :: xs, h => pna_cons (h x (List.mem_cons_self ..)) (pna_all fun y hy => h y (List.mem_cons_of_mem _ hy))
theorem pn_tup {n : Nat} {xs : List D} (t : PnA n xs) : Pn (n + 1) (.tuple xs) := ⟨by simp [nodic, t.1], by simp [PyData.canLay0, t.2.1], by
  have h2 := t.2.2
  simp only [PyData.depth]
  omega⟩
theorem pn_lst {n : Nat} {xs : List D} (t : PnA n xs) : Pn (n + 1) (.list xs) := ⟨by simp [nodic, t.1], by simp [PyData.canLay0, t.2.1], by
  have h2 := t.2.2
  simp only [PyData.depth]
  omega⟩
theorem okD_of {n : Nat} {d : D} (h : Pn n d) (hn : n ≤ 64) : okD d = true := by
  unfold okD SeqAt.shaped
  rw [h.1, h.2.1, decide_eq_true (Nat.le_trans h.2.2 hn)]
  rfl
theorem okL_ints (ns : List Int) : okD (.list (ns.map .int)) = true := okD_of (n := 1) (pn_lst (pna_all fun x hx => by obtain ⟨i, _, rfl⟩ := List.mem_map.mp hx; exact pn_int)) (by decide)
theorem okT_ints (ns : List Int) : okD (.tuple (ns.map .int)) = true := okD_of (n := 1) (pn_tup (pna_all fun x hx => by obtain ⟨i, _, rfl⟩ := List.mem_map.mp hx; exact pn_int)) (by decide)
theorem eqvA_ints : ∀ xs ys : List Int, PyData.eqvAll (xs.map .int) (ys.map .int) = decide (xs = ys)
  | [], [] => by simp [PyData.eqvAll]
  | [], _ :: _ => by simp [PyData.eqvAll]
  | _ :: _, [] => by simp [PyData.eqvAll]
  | x :: xs, y :: ys => by
    have ih := eqvA_ints xs ys
    simp only [List.map_cons, PyData.eqvAll, PyData.eqv, ih]
    by_cases h : x = y <;> by_cases g : xs = ys <;> simp [h, g]
theorem eqvL_ints (xs ys : List Int) : PyData.eqv (.list (xs.map .int)) (.list (ys.map .int)) = decide (xs = ys) := by rw [show PyData.eqv (.list (xs.map .int)) (.list (ys.map .int)) = PyData.eqvAll (xs.map .int) (ys.map .int) by simp [PyData.eqv]]; exact eqvA_ints xs ys
theorem eqvT_ints (xs ys : List Int) : PyData.eqv (.tuple (xs.map .int)) (.tuple (ys.map .int)) = decide (xs = ys) := by rw [show PyData.eqv (.tuple (xs.map .int)) (.tuple (ys.map .int)) = PyData.eqvAll (xs.map .int) (ys.map .int) by simp [PyData.eqv]]; exact eqvA_ints xs ys
mutual
theorem eqv_refl : ∀ d : D, nodic d = true → PyData.eqv d d = true
  | .none, _ => by simp [PyData.eqv]
  | .bool b, _ => by simp [PyData.eqv]
  | .int i, _ => by simp [PyData.eqv]
  | .str x, _ => by simp [PyData.eqv]
  | .list xs, h => by
    rw [show PyData.eqv (.list xs) (.list xs) = PyData.eqvAll xs xs by simp [PyData.eqv]]
    exact eqvA_refl xs (by simpa [nodic] using h)
  | .tuple xs, h => by
    rw [show PyData.eqv (.tuple xs) (.tuple xs) = PyData.eqvAll xs xs by simp [PyData.eqv]]
    exact eqvA_refl xs (by simpa [nodic] using h)
  | .dict _, h => by simp [nodic] at h
theorem eqvA_refl : ∀ ds : List D, nodicA ds = true → PyData.eqvAll ds ds = true
  | [], _ => by simp [PyData.eqvAll]
  | x :: xs, h => by
    simp only [nodicA, Bool.and_eq_true] at h
    simp only [PyData.eqvAll, eqv_refl x h.1, eqvA_refl xs h.2, Bool.and_self]
end
/-- equal data are == -/
theorem v_eqDr {d : D} {n : Nat} {Q : D → Prop} (h : Pn n d) (hn : n ≤ 64) (q : Q (.bool true)) : VAL (fEqD d d) Q := v_eqD (okD_of h hn) (okD_of h hn) (by rw [eqv_refl d h.1]; exact q)
theorem v_neDr {d : D} {n : Nat} {Q : D → Prop} (h : Pn n d) (hn : n ≤ 64) (q : Q (.bool false)) : VAL (fNeD d d) Q := v_neD (okD_of h hn) (okD_of h hn) (by rw [eqv_refl d h.1]; exact q)
theorem v_eqLi {xs ys : List Int} {Q : D → Prop} (q : Q (.bool (decide (xs = ys)))) : VAL (fEqD (.list (xs.map .int)) (.list (ys.map .int))) Q := v_eqD (okL_ints _) (okL_ints _) (by rw [eqvL_ints]; exact q)
theorem v_neLi {xs ys : List Int} {Q : D → Prop} (q : Q (.bool (!decide (xs = ys)))) : VAL (fNeD (.list (xs.map .int)) (.list (ys.map .int))) Q := v_neD (okL_ints _) (okL_ints _) (by rw [eqvL_ints]; exact q)
theorem v_eqTi {xs ys : List Int} {Q : D → Prop} (q : Q (.bool (decide (xs = ys)))) : VAL (fEqD (.tuple (xs.map .int)) (.tuple (ys.map .int))) Q := v_eqD (okT_ints _) (okT_ints _) (by rw [eqvT_ints]; exact q)
theorem v_neTi {xs ys : List Int} {Q : D → Prop} (q : Q (.bool (!decide (xs = ys)))) : VAL (fNeD (.tuple (xs.map .int)) (.tuple (ys.map .int))) Q := v_neD (okT_ints _) (okT_ints _) (by rw [eqvT_ints]; exact q)
/-! in, of ints -/
theorem flat_ints : ∀ ns : List Int, (ns.map PyData.int).all flatD = true
  | [] => rfl
  | n :: ns => by rw [List.map_cons, List.all_cons, flat_ints ns]; rfl
theorem inF_ints (i : Int) : ∀ ns : List Int, inF (.int i) (ns.map .int) = decide (i ∈ ns)
  | [] => by simp [inF]
  | n :: ns => by
    have ih := inF_ints i ns
    unfold inF at ih ⊢
    rw [List.map_cons, List.any_cons, ih]
    show ((n == i) || decide (i ∈ ns)) = decide (i ∈ n :: ns)
    by_cases h : n = i
    · subst h; simp
    · have h2 : ¬ i = n := fun z => h z.symm
      simp [h, h2]
theorem v_inL {i : Int} {ns : List Int} {Q : D → Prop} (q : Q (.bool (decide (i ∈ ns)))) : VAL (fIn false (.int i) (.list (ns.map .int))) Q := ⟨_, by
  show (if (flatD (.int i) && (ns.map PyData.int).all flatD) = true then some (PyData.bool (inF (.int i) (ns.map .int))) else none) = _
  rw [if_pos (by rw [flat_ints]; rfl), inF_ints], q⟩
theorem v_inT {i : Int} {ns : List Int} {Q : D → Prop} (q : Q (.bool (decide (i ∈ ns)))) : VAL (fIn false (.int i) (.tuple (ns.map .int))) Q := ⟨_, by
  show (if (flatD (.int i) && (ns.map PyData.int).all flatD) = true then some (PyData.bool (inF (.int i) (ns.map .int))) else none) = _
  rw [if_pos (by rw [flat_ints]; rfl), inF_ints], q⟩
theorem v_niL {i : Int} {ns : List Int} {Q : D → Prop} (q : Q (.bool (!decide (i ∈ ns)))) : VAL (fIn true (.int i) (.list (ns.map .int))) Q := ⟨_, by
  show (if (flatD (.int i) && (ns.map PyData.int).all flatD) = true then some (PyData.bool (!inF (.int i) (ns.map .int))) else none) = _
  rw [if_pos (by rw [flat_ints]; rfl), inF_ints], q⟩
theorem v_niT {i : Int} {ns : List Int} {Q : D → Prop} (q : Q (.bool (!decide (i ∈ ns)))) : VAL (fIn true (.int i) (.tuple (ns.map .int))) Q := ⟨_, by
  show (if (flatD (.int i) && (ns.map PyData.int).all flatD) = true then some (PyData.bool (!inF (.int i) (ns.map .int))) else none) = _
  rw [if_pos (by rw [flat_ints]; rfl), inF_ints], q⟩
/-! ranges of ints -/
def rngI (lo : Int) (n : Nat) : List Int := (List.range n).map fun (i : Nat) => lo + (i : Int)
theorem rngD_I (lo : Int) (n : Nat) : rngD lo n = (rngI lo n).map .int := by unfold rngD rngI; rw [List.map_map]; rfl
theorem rngI_len (lo : Int) (n : Nat) : (rngI lo n).length = n := by unfold rngI; rw [List.length_map, List.length_range]
theorem rngD_len (lo : Int) (n : Nat) : (rngD lo n).length = n := by unfold rngD; rw [List.length_map, List.length_range]
theorem mem_rngI {lo x : Int} {n : Nat} : x ∈ rngI lo n ↔ lo ≤ x ∧ x < lo + n := by
  unfold rngI
  rw [List.mem_map]
  constructor
  · rintro ⟨i, hi, rfl⟩
    rw [List.mem_range] at hi
    omega
  · rintro ⟨h1, h2⟩
    exact ⟨(x - lo).toNat, by rw [List.mem_range]; omega, by omega⟩
theorem rngI_succ (lo : Int) (n : Nat) : rngI lo (n + 1) = rngI lo n ++ [lo + n] := by unfold rngI; rw [List.range_succ, List.map_append]; rfl
theorem rngI_take (lo : Int) (n i : Nat) (h : i ≤ n) : (rngI lo n).take i = rngI lo i := by
  unfold rngI
  rw [← List.map_take, List.take_range, Nat.min_eq_left h]
theorem rngI_get {lo : Int} {n i : Nat} (h : i < n) : (rngI lo n)[i]? = some (lo + i) := by
  unfold rngI
  rw [List.getElem?_map, List.getElem?_range h]
  rfl
theorem rngI_pw (lo : Int) : ∀ n : Nat, (rngI lo n).Pairwise (· < ·)
  | 0 => .nil
  | n + 1 => by
    rw [rngI_succ, List.pairwise_append]
    refine ⟨rngI_pw lo n, List.pairwise_singleton .., fun a ha b hb => ?_⟩
    rw [List.mem_singleton] at hb
    have := mem_rngI.mp ha
    omega
/-- two ascending lists with the same items are one -/
theorem asc_ext : ∀ {xs ys : List Int}, xs.Pairwise (· < ·) → ys.Pairwise (· < ·) → (∀ z, z ∈ xs ↔ z ∈ ys) → xs = ys
  | [], [], _, _, _ => rfl
  | [], y :: ys, _, _, h => absurd ((h y).mpr (List.mem_cons_self ..)) (by simp)
  | x :: xs, [], _, _, h => absurd ((h x).mp (List.mem_cons_self ..)) (by simp)
  | x :: xs, y :: ys, p, q, h => by
    obtain ⟨p1, p2⟩ := List.pairwise_cons.mp p
    obtain ⟨q1, q2⟩ := List.pairwise_cons.mp q
    have e : x = y := by
      have h1 := (h x).mp (List.mem_cons_self ..)
      have h2 := (h y).mpr (List.mem_cons_self ..)
      rcases List.mem_cons.mp h1 with z | z
      · exact z
      · rcases List.mem_cons.mp h2 with w | w
        · exact w.symm
        · have := q1 _ z; have := p1 _ w; omega
    subst e
    rw [asc_ext p2 q2 fun z => ?_]
    constructor
    · intro hz
      have l := p1 z hz
      rcases List.mem_cons.mp ((h z).mp (List.mem_cons_of_mem _ hz)) with w | w
      · omega
      · exact w
    · intro hz
      have l := q1 z hz
      rcases List.mem_cons.mp ((h z).mpr (List.mem_cons_of_mem _ hz)) with w | w
      · omega
      · exact w
/-- both ways of an if come to one thing -/
theorem SatS.mono {o : Out} {N N' : Env → Prop} {Rt : D → Env → Prop} {B C : Env → Prop} {X : Str → D → Env → Prop} (h : SatS o N Rt B C X) (q : ∀ ρ, N ρ → N' ρ) : SatS o N' Rt B C X := by
  cases o with
  | nx ρ => exact q ρ h
  | rt d ρ => exact h
  | bk ρ => exact h
  | ct ρ => exact h
  | exc c d ρ => exact h
  | stuck => exact h
theorem if_join {b : Bool} {s1 s2 : Out} {N : Env → Prop} {Rt : D → Env → Prop} {B C : Env → Prop} {X : Str → D → Env → Prop} (P : Env → Prop) (h1 : b = true → SatS s1 P Rt B C X) (h2 : b = false → SatS s2 P Rt B C X) (h : ∀ ρ, P ρ → N ρ) : IFV b (SatS s1 N Rt B C X) (SatS s2 N Rt B C X) := by
  cases b with
  | true => exact if_t ((h1 rfl).mono h)
  | false => exact if_f ((h2 rfl).mono h)
theorem seq_join {m1 m2 : MS} {ρ : Env} {N : Env → Prop} {Rt : D → Env → Prop} {B C : Env → Prop} {X : Str → D → Env → Prop} (P : Env → Prop) (h1 : SatS (m1 ρ) P Rt B C X) (h : ∀ ρ, P ρ → SatS (m2 ρ) N Rt B C X) : SatS (mSeq m1 m2 ρ) N Rt B C X := w_seq (h1.mono h)
theorem dropLast_last {α : Type} : ∀ {xs : List α}, xs ≠ [] → ∃ r p, xs = r ++ [p]
  | [], h => absurd rfl h
  | [x], _ => ⟨[], x, rfl⟩
  | x :: y :: r, _ => by
    obtain ⟨r', p, e⟩ := dropLast_last (xs := y :: r) (by simp)
    exact ⟨x :: r', p, by rw [e]; rfl⟩
end Mi

set_option Elab.async false
set_option linter.all false
set_option maxRecDepth 100000
namespace Mi
open PySem PySem.Spec PyProof.Rows L2
section
variable {K : PySem.W.Frag} {mg : Str → Option Value} {E : L2.St → XK} {ta tb tc te td ty tv tx : TE} {ma mb mc m mk mv mx : ME} {ρ : Env} {Q : D → Env → Prop}
theorem passE {X : Cx} : Passes (L2.CX X.prog X.w) X E0 := fun _ _ _ _ _ _ _ h => by
  obtain ⟨_, _, _, _, _, _, _, _, _, _, _, _, h⟩ := h
  exact h.elim
/-! sum of a tuple of ints -/
def rSumT (K : PySem.W.Frag) : List V → Hp → VK → Prop := fun vs H Q => ∃ (a : Addr) (ns : List Int), vs = [V.ref a] ∧ SqT K H a (ns.map V.int) ∧ Q (.int ns.sum) H
theorem cr_sumT {X : Cx} (hc : X.calm = true) : CallR X (.builtin "sum") (rSumT X.K) := by
  intro pins s σ H vs us Q I r h
  obtain ⟨a, ns, rfl, hs, q⟩ := h
  obtain ⟨its, rv, hl, _⟩ := I.tuple hs
  rw [Vals.ref1 r]
  have hi := rv.ints
  obtain ⟨xs, e⟩ := hi.allInts.items
  have hn : numsOf (intItems xs).toList = ns := by rw [← e]; exact hi.numsOf
  rw [nums_intItems] at hn
  have hl : s.heap.IsTuple a its.toArray := hl
  rw [e] at hl
  refine PySem.W.ktm_sumG (I.ok.hd hc) hl fun h' tk t' hk => ?_
  rw [preSum_eq, List.take_of_length_le (by simp), hn]
  exact ⟨.int _, H, I.kept hk, ⟨_, rfl⟩, q⟩
def cbSumT : List D → Option D
  | [.tuple ds] => (intsD ds).map fun ns => .int ns.sum
  | _ => none
theorem cs_sumT : CbSh K (rSumT K) cbSumT := CbS.sh fun F H xs ds d Q s rx e q => by
  unfold cbSumT at e
  split at e
  · rename_i es
    obtain ⟨v, rfl, hv⟩ := one_rp rx
    cases z : intsD es with
    | none => rw [z] at e; cases e
    | some ns =>
      rw [z] at e
      cases e
      cases hv with
      | tup h1 h2 => exact ⟨_, ns, rfl, by rw [← h2.ints (intsD_eq z)]; exact s.seqT h1, q _ (.int _)⟩
  · cases e
theorem v_sumT {ns : List Int} {Q : D → Prop} (q : Q (.int ns.sum)) : VAL (cbSumT [.tuple (ns.map .int)]) Q := ⟨_, by show (intsD (ns.map .int)).map _ = _; rw [intsD_map]; rfl, q⟩
/-! x[i], x a list or a tuple -/
def fIxQ : D → D → Option D
  | .list ds, .int i => atI ds i
  | .tuple ds, .int i => atI ds i
  | _, _ => none
def rIxQ (K : PySem.W.Frag) : L2.R2 := fun x y H Q => rIxL K x y H Q ∨ rIxT K x y H Q
theorem ix_q {X : Cx} : IxR X (rIxQ X.K) := IxR.or ix_list ix_tup
theorem s_ixQ : OpSh K (rIxQ K) fIxQ := fun Φ F σ H ρ x y dx dy d Q rr rx ry e q => by
  cases dx <;> first | (cases e; done) | skip
  · exact .inl (s_ixL Φ F σ H ρ x y _ dy d Q rr rx ry (by cases dy <;> first | (cases e; done) | exact e) q)
  · exact .inr (s_ixT Φ F σ H ρ x y _ dy d Q rr rx ry (by cases dy <;> first | (cases e; done) | exact e) q)
theorem v_ixQL {d : D} {ds : List D} {i : Int} {Q : D → Prop} (h : atI ds i = some d) (q : Q d) : VAL (fIxQ (.list ds) (.int i)) Q := ⟨d, h, q⟩
theorem v_ixQT {d : D} {ds : List D} {i : Int} {Q : D → Prop} (h : atI ds i = some d) (q : Q d) : VAL (fIxQ (.tuple ds) (.int i)) Q := ⟨d, h, q⟩
/-! math.gcd, math.lcm -/
def cbGcd : List D → Option D
  | [.int a, .int b] => some (.int ((Nat.gcd a.natAbs b.natAbs : Nat) : Int))
  | _ => none
theorem cs_gcd : CbSh K rGcd cbGcd := CbS.sh fun F H xs ds d Q s rx e q => by
  unfold cbGcd at e
  split at e
  · obtain ⟨v, w, rfl, hv, hw⟩ := two_rp rx
    cases e
    cases hv
    cases hw
    exact ⟨_, _, rfl, q _ (.int _)⟩
  · cases e
theorem v_gcd {a b : Int} {Q : D → Prop} (q : Q (.int ((Nat.gcd a.natAbs b.natAbs : Nat) : Int))) : VAL (cbGcd [.int a, .int b]) Q := ⟨_, rfl, q⟩
def rLcm : List V → Hp → VK → Prop := fun vs H Q => ∃ a b : Int, vs = [.int a, .int b] ∧ (a.natAbs < 18446744073709551616 ∧ b.natAbs < 18446744073709551616) ∧ Q (.int ((Nat.lcm a.natAbs b.natAbs : Nat) : Int)) H
theorem lcm_le (a b : Nat) : Nat.lcm a b ≤ a * b := Nat.div_le_self _ _
theorem cr_lcm {X : Cx} : CallR X (.builtin "math.lcm") rLcm := by
  intro pins s σ H vs us Q I r h
  obtain ⟨a, b, rfl, ⟨ha, hb⟩, q⟩ := h
  obtain ⟨t, u, rfl⟩ := Vals.int2 r
  have e : (Nat.lcm 1 a.natAbs).lcm b.natAbs = Nat.lcm a.natAbs b.natAbs := by rw [Nat.lcm_one_left]
  refine PySem.W.mg_lcm ha hb ?_ ?_
  · rw [e, Int.natAbs_natCast]
    have h1 := lcm_le a.natAbs b.natAbs
    have h2 : a.natAbs * b.natAbs ≤ 18446744073709551616 * 18446744073709551616 := Nat.mul_le_mul (Nat.le_of_lt ha) (Nat.le_of_lt hb)
    have h3 := PySem.W.mg_log (n := Nat.lcm a.natAbs b.natAbs) (k := 128) (by omega)
    unfold bitsLine
    omega
  · rw [e]
    exact ⟨.int _, H, I.tok _, ⟨_, rfl⟩, q⟩
def cbLcm : List D → Option D
  | [.int a, .int b] => if (decide (a.natAbs < 18446744073709551616) && decide (b.natAbs < 18446744073709551616)) = true then some (.int ((Nat.lcm a.natAbs b.natAbs : Nat) : Int)) else none
  | _ => none
theorem cs_lcm : CbSh K rLcm cbLcm := CbS.sh fun F H xs ds d Q s rx e q => by
  unfold cbLcm at e
  split at e
  · obtain ⟨v, w, rfl, hv, hw⟩ := two_rp rx
    split at e
    · rename_i h
      simp only [Bool.and_eq_true, decide_eq_true_eq] at h
      cases e
      cases hv
      cases hw
      exact ⟨_, _, rfl, h, q _ (.int _)⟩
    · cases e
  · cases e
theorem v_lcm {a b : Int} {Q : D → Prop} (h : a.natAbs < 18446744073709551616 ∧ b.natAbs < 18446744073709551616) (q : Q (.int ((Nat.lcm a.natAbs b.natAbs : Nat) : Int))) : VAL (cbLcm [.int a, .int b]) Q := ⟨_, by
  show (if (decide (a.natAbs < 18446744073709551616) && decide (b.natAbs < 18446744073709551616)) = true then _ else _) = _
  rw [if_pos (by rw [decide_eq_true h.1, decide_eq_true h.2]; rfl)], q⟩
theorem v_maxL {ns : List Int} {m : Int} {Q : D → Prop} (h : maxI ns = some m) (q : Q (.int m)) : VAL (cbMax [.list (ns.map .int)]) Q := ⟨_, by show ((intsD (ns.map .int)).bind maxI).map _ = _; rw [intsD_map]; show (maxI ns).map _ = _; rw [h]; rfl, q⟩
theorem v_minL {ns : List Int} {m : Int} {Q : D → Prop} (h : minI ns = some m) (q : Q (.int m)) : VAL (cbMin [.list (ns.map .int)]) Q := ⟨_, by show ((intsD (ns.map .int)).bind minI).map _ = _; rw [intsD_map]; show (minI ns).map _ = _; rw [h]; rfl, q⟩
theorem maxI_ex {ns : List Int} (h : ns ≠ []) : ∃ m, maxI ns = some m := by
  cases ns with
  | nil => exact absurd rfl h
  | cons n ns => exact ⟨_, rfl⟩
theorem minI_ex {ns : List Int} (h : ns ≠ []) : ∃ m, minI ns = some m := by
  cases ns with
  | nil => exact absurd rfl h
  | cons n ns => exact ⟨_, rfl⟩
theorem for_mono {tg : MG} {b : MS} {xs : List D} {ρ : Env} {P N : Env → Prop} {Rt : D → Env → Prop} {Xp : Str → D → Env → Prop} (h : FORW tg b xs ρ P Rt Xp) (q : ∀ ρ, P ρ → N ρ) : FORW tg b xs ρ N Rt Xp := fun B C => (h B C).mono q
theorem w_retIf {mt : MT} {ma mb : ME} {ρ : Env} {N : Env → Prop} {Rt : D → Env → Prop} {B C : Env → Prop} {Xp : Str → D → Env → Prop} (q : SatT (mt ρ) fun c ρ1 => IFV c (SatS (mRet ma ρ1) N Rt B C Xp) (SatS (mRet mb ρ1) N Rt B C Xp)) : SatS (mRet (mIf mt ma mb) ρ) N Rt B C Xp := by
  obtain ⟨c, ρ1, e1, q⟩ := q
  unfold mRet mIf
  rw [e1]
  unfold IFV at q
  show SatS ((if c = true then ma ρ1 else mb ρ1).out fun p => .rt p.1 p.2) N Rt B C Xp
  split at q
  · rw [if_pos (by assumption)]; exact q
  · rw [if_neg (by assumption)]; exact q
theorem v_nin {a : D} {ds : List D} {Q : D → Prop} (h1 : flatD a = true) (h2 : ds.all flatD = true) (h3 : inF a ds = true) (q : Q (.bool false)) : VAL (fIn true a (.list ds)) Q := ⟨_, by show (if (flatD a && ds.all flatD) = true then some (PyData.bool (!inF a ds)) else none) = _; rw [h1, h2, h3]; rfl, q⟩
/-- any number for a min or a max -/
theorem v_minAny {a b : Int} {Q : D → Prop} (q : ∀ t : Int, Q (.int t)) : VAL (cbMin2 [.int a, .int b]) Q := v_min2 (q _)
/-! d.get(k, x) of a dict that is fixed -/
def isDic : D → Bool
  | .dict ((.none, _) :: _) => false
  | .dict _ => true
  | _ => false
def fGet2 : D → D → D → Option D
  | .dict kds, k, x => (keyD k).map fun k => (valD kds k).getD x
  | _, _, _ => none
def mGet2 (md mk mx : ME) : ME := fun ρ => (md ρ).bind fun p => if isDic p.1 = true then (mk p.2).bind fun q => (mx q.2).bind fun r => ret (fGet2 p.1 q.1 r.1) r.2 else .stuck
theorem sh_get2 (hd : ShE K mg E td m) (hk : ShE K mg E ty mk) (hx : ShE K mg E tx mx) : ShE K mg E (tDGet2 td ty tx) (mGet2 m mk mx) := by
  intro Φ F σ H ρ Q W rr x g
  have g1 := Good.bind (r := m ρ) g
  refine hd Φ F σ H ρ _ W rr x (g1.mono (fun p gp v F1 H1 r1 s1 rv => ?_) fun _ _ _ w => w)
  obtain ⟨p1, p2⟩ := p
  have gp : Good (if isDic p1 = true then (mk p2).bind fun q => (mx q.2).bind fun r => ret (fGet2 p1 q.1 r.1) r.2 else .stuck) _ _ := gp
  by_cases hi : isDic p1 = true
  · rw [if_pos hi] at gp
    obtain ⟨a, kvs, kds, rfl, rfl, e1, rk⟩ : ∃ a kvs kds, v = .ref a ∧ p1 = .dict kds ∧ F1 a = some (.dK kvs) ∧ RpK K F1 kvs kds := by
      cases rv with
      | dic h1 h2 => exact ⟨_, _, _, rfl, rfl, h1, h2⟩
      | _ => cases hi
    refine ⟨a, rfl, .inl ⟨kvs, .inl (r1.sub _ _ e1)⟩, ?_⟩
    have g2 := gp.bind
    refine hk Φ F1 σ H1 p2 _ W r1 x (g2.mono (fun q gq v2 F2 H2 r2 s2 rv2 => ?_) fun _ _ _ w => up.weak s1 w)
    have g3 := gq.bind
    refine hx Φ F2 σ H2 q.2 _ W r2 x (g3.mono (fun r gr v3 F3 H3 r3 s3 rv3 => ?_) fun _ _ _ w => up.weak (s1.trans s2) w)
    cases ek : keyD q.1 with
    | none =>
      have : fGet2 (.dict kds) q.1 r.1 = none := by show (keyD q.1).map _ = _; rw [ek]; rfl
      rw [this] at gr
      exact gr.elim
    | some k =>
      have ef : fGet2 (.dict kds) q.1 r.1 = some ((valD kds k).getD r.1) := by show (keyD q.1).map _ = _; rw [ek]; rfl
      rw [ef] at gr
      obtain ⟨rfl, _⟩ := keyD_ok rv2 ek
      have e3 : H3 a = some (.dK kvs) := r3.sub _ _ (s3 _ _ (s2 _ _ e1))
      refine ⟨valV kvs k, DGet.k e3, ?_⟩
      refine gr _ F3 H3 r3 ((s1.trans s2).trans s3) ?_
      rcases valD_ok (k := k) (rk.mono (s2.trans s3)) with ⟨h1, h2⟩ | ⟨w, d, h1, h2, h3⟩
      · rw [h1, h2]; exact rv3
      · rw [h1, h2]; exact h3
  · rw [if_neg hi] at gp
    exact gp.elim
theorem w_get2 (q : Sat (m ρ) fun a ρ1 => isDic a = true ∧ Sat (mk ρ1) fun b ρ2 => Sat (mx ρ2) fun c ρ3 => VAL (fGet2 a b c) fun d => Q d ρ3) : Sat (mGet2 m mk mx ρ) Q := by
  obtain ⟨a, ρ1, e1, hi, b, ρ2, e2, c, ρ3, e3, d, e4, q⟩ := q
  exact ⟨d, ρ3, by unfold mGet2; rw [e1]; show (if isDic a = true then _ else _) = _; rw [if_pos hi, e2]; show (mx ρ2).bind _ = _; rw [e3]; show ret _ _ = _; rw [e4]; rfl, q⟩
end
/-! x in own, the list only looked at -/
def mPkR (neg : Bool) (m : ME) (j : Nat) : ME := fun ρ => match mu ρ j with
  | some _ => (m ρ).bind fun p => match mu p.2 j with
    | none => .stuck
    | some d => ret (fIn neg p.1 d) p.2
  | none => mOp (fIn neg) m (mVar j) ρ
section
variable {K : PySem.W.Frag} {mg : Str → Option Value} {E : L2.St → XK} {te : TE} {m : ME} {ρ : Env} {Q : D → Env → Prop}
theorem pk_inR {neg : Bool} {F H : Hp} {a : Addr} {v : V} {dx d z : D} {Q : VK} (ow : OwnR K F H a d) (rv : Rp K F v dx) (e : fIn neg dx d = some z) (q : ∀ w, Rp K F w z → Q w H) : rIn K neg v (.ref a) H Q := by
  unfold fIn at e
  cases y : itemsD d with
  | none => rw [y] at e; cases e
  | some ds =>
    rw [y] at e
    have e : (if (flatD dx && ds.all flatD) = true then some (PyData.bool (if neg then !inF dx ds else inF dx ds)) else none) = some z := e
    split at e
    · rename_i h
      rw [Bool.and_eq_true] at h
      cases e
      cases d <;> first | (cases y; done) | skip
      · cases y
        obtain ⟨vs, h1, h2⟩ := ow
        obtain ⟨i1, i2⟩ := inF_ok rv h.1 h2 h.2
        exact ⟨_, _, rfl, .inl (SqL.of h1), flat_ok rv h.1, i1, by rw [i2]; exact q _ (.bl _)⟩
      · exact ow.elim
    · cases e
theorem sh_pkR {neg : Bool} {j : Nat} (h : ShE K mg E te m) : ShE K mg E (tOp (rIn K neg) te (tVar j)) (mPkR neg m j) := by
  intro Φ F σ H ρ Q W rr x g
  unfold mPkR at g
  cases e : mu ρ j with
  | none => rw [e] at g; exact sh_op (s_in neg) h (sh_var j) Φ F σ H ρ Q W rr x g
  | some d0 =>
    rw [e] at g
    refine h Φ F σ H ρ _ W rr x ((Good.bind (r := m ρ) g).mono (fun p gp v F1 H1 r1 s1 rv => ?_) fun _ _ _ w => w)
    cases e1 : mu p.2 j with
    | none => simp only [e1] at gp; exact gp.elim
    | some d =>
      simp only [e1] at gp
      obtain ⟨a, ea, nF, ow⟩ := r1.mu e1
      unfold ret at gp
      cases e2 : fIn neg p.1 d with
      | none => rw [e2] at gp; exact gp.elim
      | some z =>
        rw [e2] at gp
        exact ⟨_, ea, pk_inR ow rv e2 fun w rw' => gp w F1 H1 r1 s1 rw'⟩
theorem w_pkR {neg : Bool} {j : Nat} (q : MU (mu ρ j) fun _ => Sat (m ρ) fun a ρ1 => MU (mu ρ1 j) fun d => VAL (fIn neg a d) fun z => Q z ρ1) : Sat (mPkR neg m j ρ) Q := by
  obtain ⟨d0, e0, a, ρ1, e1, d, e2, z, e3, q⟩ := q
  exact ⟨z, ρ1, by unfold mPkR; rw [e0]; show (m ρ).bind _ = _; rw [e1]; show (match mu ρ1 j with | none => _ | some d => _) = _; rw [e2]; show ret _ _ = _; rw [e3]; rfl, q⟩
end
/-! try .. except X: without a name -/
section
variable {K : PySem.W.Frag} {mg : Str → Option Value} {E : L2.St → XK}
def mTryO (c : Str) (mb ms : MS) : MS := fun ρ => match mb ρ with
  | .exc c' d ρ' => if c' = c then ms ρ' else .stuck
  | o => o
theorem shs_tryO {tb : WX → TS} {ts : TS} {Wout : WX} {c : Str} {C : Addr} {mb ms : MS} (hb : ∀ W : WX, ShS K mg (fun σ cls d H => W cls d σ H) (tb W) mb) (gC : mg c = some (.ref C)) (te : PySem.W.exmOne K (.ref C) (.ref C) = some true)
    (hs : ShS K mg E ts ms) : ShS K mg E (fun D σ H => tb (wOnly K (.ref C) (fun _ _ _ => ts) Wout D) D σ H) (mTryO c mb ms) := by
  intro Φ F σ H ρ De W r x gg
  refine hb (wOnly K (.ref C) (fun _ _ _ => ts) Wout De) Φ F σ H ρ De (fun c' d F' ρ' => Same F F' ∧ GoodS K Φ F' De W (if c' = c then ms ρ' else .stuck)) r ?_ ?_
  · intro c' d ρ' F' σ' H' C' dx fs r' em ex nF n0 rx w
    obtain ⟨sF, w⟩ := w
    split at w
    · rename_i q
      subst q
      rw [gC] at em
      cases em
      exact ⟨true, te, fun _ a na => hs Φ F' σ' H' ρ' De W r' x w, fun q => Bool.noConfusion q⟩
    · exact w.elim
  · unfold mTryO at gg
    cases e : mb ρ with
    | exc c' d ρ' => rw [e] at gg; exact fun F' s => ⟨s, gg.weak s⟩
    | nx ρ' => rw [e] at gg; exact gg
    | rt d ρ' => rw [e] at gg; exact gg
    | bk ρ' => rw [e] at gg; exact gg
    | ct ρ' => rw [e] at gg; exact gg
    | stuck => rw [e] at gg; exact gg
theorem w_tryO {c : Str} {mb ms : MS} {ρ : Env} {N : Env → Prop} {Rt : D → Env → Prop} {B C : Env → Prop} {Xp : Str → D → Env → Prop} (q : SatS (mb ρ) N Rt B C fun c' _ ρ' => c' = c ∧ SatS (ms ρ') N Rt B C Xp) : SatS (mTryO c mb ms ρ) N Rt B C Xp := by
  unfold mTryO
  cases e : mb ρ with
  | exc c' d ρ' =>
    rw [e] at q
    obtain ⟨h, q⟩ := q
    show SatS (if c' = c then ms ρ' else .stuck) N Rt B C Xp
    rw [if_pos h]
    exact q
  | nx ρ' => rw [e] at q; exact q
  | rt d ρ' => rw [e] at q; exact q
  | bk ρ' => rw [e] at q; exact q
  | ct ρ' => rw [e] at q; exact q
  | stuck => rw [e] at q; exact q
end
end Mi

set_option Elab.async false
set_option linter.all false
set_option maxRecDepth 100000
namespace Mi
open PySem PySem.Spec PyProof.Rows L2
/-! sorted of pairs of ints, of any number -/
abbrev PI := Int × Int
def leP (p q : PI) : Prop := SrtO.lexB q p = false
instance {p q : PI} : Decidable (leP p q) := by unfold leP; infer_instance
theorem leP_tr {p q r : PI} (h : leP p q) (g : leP q r) : leP p r := by
  unfold leP at *
  rw [SrtO.lexB_no] at *
  omega
theorem leP_tot {p q : PI} (h : ¬ leP p q) : leP q p := by
  unfold leP at *
  rw [SrtO.lexB_no] at *
  omega
theorem leP_anti {p q : PI} (h : leP p q) (g : leP q p) : p = q := by
  unfold leP at *
  rw [SrtO.lexB_no] at *
  obtain ⟨a, b⟩ := p
  obtain ⟨c, d⟩ := q
  dsimp only at *
  have h1 : a = c := by omega
  have h2 : b = d := by omega
  rw [h1, h2]
def insP (x : PI) : List PI → List PI
  | [] => [x]
  | y :: ys => if leP x y then x :: y :: ys else y :: insP x ys
def sortP : List PI → List PI
  | [] => []
  | x :: xs => insP x (sortP xs)
theorem insP_perm (x : PI) : ∀ ys : List PI, (insP x ys).Perm (x :: ys)
  | [] => .refl _
  | y :: ys => by
    unfold insP
    split
    · exact .refl _
    · exact ((insP_perm x ys).cons y).trans (.swap x y ys)
theorem sortP_perm : ∀ xs : List PI, (sortP xs).Perm xs
  | [] => .refl _
  | x :: xs => (insP_perm x _).trans ((sortP_perm xs).cons x)
theorem insP_pw (x : PI) : ∀ ys : List PI, ys.Pairwise leP → (insP x ys).Pairwise leP
  | [], _ => List.pairwise_singleton ..
  | y :: ys, h => by
    obtain ⟨h1, h2⟩ := List.pairwise_cons.mp h
    unfold insP
    split
    · rename_i c
      refine List.pairwise_cons.mpr ⟨fun z hz => ?_, h⟩
      rcases List.mem_cons.mp hz with rfl | hz
      · exact c
      · exact leP_tr c (h1 z hz)
    · rename_i c
      refine List.pairwise_cons.mpr ⟨fun z hz => ?_, insP_pw x ys h2⟩
      rcases List.mem_cons.mp ((insP_perm x ys).mem_iff.mp hz) with rfl | hz
      · exact leP_tot c
      · exact h1 z hz
theorem sortP_pw : ∀ xs : List PI, (sortP xs).Pairwise leP
  | [] => .nil
  | x :: xs => insP_pw x _ (sortP_pw xs)
theorem sortP_eq : ∀ {xs ys : List PI}, xs.Perm ys → xs.Pairwise leP → ys.Pairwise leP → xs = ys
  | [], ys, p, _, _ => p.nil_eq
  | x :: xs, [], p, _, _ => absurd p.length_eq (by simp)
  | x :: xs, y :: ys, p, h1, h2 => by
    obtain ⟨a1, a2⟩ := List.pairwise_cons.mp h1
    obtain ⟨b1, b2⟩ := List.pairwise_cons.mp h2
    have rf : leP x x := by unfold leP; rw [SrtO.lexB_no]; omega
    have e1 : x ∈ y :: ys := p.mem_iff.mp (List.mem_cons_self ..)
    have e2 : y ∈ x :: xs := p.mem_iff.mpr (List.mem_cons_self ..)
    have e : x = y := by
      have l1 : leP y x := by
        rcases List.mem_cons.mp e1 with z | z
        · rw [← z]; exact rf
        · exact b1 _ z
      have l2 : leP x y := by
        rcases List.mem_cons.mp e2 with z | z
        · rw [z]; exact rf
        · exact a1 _ z
      exact leP_anti l2 l1
    subst e
    rw [sortP_eq (p.cons_inv) a2 b2]
def encI (p : PI) : D := .tuple [.int p.1, .int p.2]
/-- the pairs of some values -/
def Al (K : PySem.W.Frag) (H : Hp) : List V → List PI → Prop
  | [], [] => True
  | x :: xs, p :: ps => (∃ t, x = V.ref t ∧ SqT K H t [.int p.1, .int p.2]) ∧ Al K H xs ps
  | _, _ => False
def rSortP (K : PySem.W.Frag) : List V → Hp → VK → Prop := fun vs H Q => ∃ (a : Addr) (xs : List V) (ps : List PI), vs = [V.ref a] ∧ SqL K H a xs ∧ Al K H xs ps ∧
  ∀ (ys : List V) (p : Addr) (k : V → PI), xs.map k = ps → ys.Perm xs → ys.map k = sortP ps → H p = none → Q (.ref p) (upd H p (.lst ys))
open Classical in
theorem cr_sortP {X : Cx} : CallR X (.builtin "sorted") (rSortP X.K) := by
  intro pins s σ H vs us Q I r h
  obtain ⟨a, xs, ps, rfl, hs, hx, q⟩ := h
  let k : V → PI := fun x => if h : ∃ p : PI, ∃ t, x = V.ref t ∧ SqT X.K H t [.int p.1, .int p.2] then Classical.choose h else (0, 0)
  have kv : ∀ (x : V) (p : PI), (∃ t, x = V.ref t ∧ SqT X.K H t [.int p.1, .int p.2]) → k x = p := fun x p h => by
    have e : ∃ p : PI, ∃ t, x = V.ref t ∧ SqT X.K H t [.int p.1, .int p.2] := ⟨p, h⟩
    have c := Classical.choose_spec e
    show (if h : ∃ p : PI, ∃ t, x = V.ref t ∧ SqT X.K H t [.int p.1, .int p.2] then Classical.choose h else (0, 0)) = p
    rw [dif_pos e]
    obtain ⟨t, rfl, h1⟩ := h
    obtain ⟨t', e', h2⟩ := c
    cases e'
    have z := I.tuple_inj h1 h2
    injection z with z1 z2
    injection z2 with z2 _
    injection z1 with z1
    injection z2 with z2
    exact Prod.ext z1.symm z2.symm
  have al : ∀ {xs : List V} {ps : List PI}, Al X.K H xs ps → xs.map k = ps ∧ ∀ x ∈ xs, ∃ t, x = V.ref t ∧ SqT X.K H t [.int (k x).1, .int (k x).2] := by
    intro xs
    induction xs with
    | nil => intro ps h; cases ps with
      | nil => exact ⟨rfl, fun x hx => by cases hx⟩
      | cons p ps => exact h.elim
    | cons x xs ih => intro ps h; cases ps with
      | nil => exact h.elim
      | cons p ps =>
        obtain ⟨h1, h2⟩ := ih h.2
        have e := kv x p h.1
        refine ⟨by rw [List.map_cons, e, h1], fun y hy => ?_⟩
        rcases List.mem_cons.mp hy with rfl | hy
        · rw [e]; exact h.1
        · exact h2 y hy
  obtain ⟨hk, hall⟩ := al hx
  obtain ⟨its, rv, hl, hz⟩ := I.list hs
  obtain ⟨u, rfl, ru⟩ := vals1 r
  obtain rfl : u = Value.ref a := ru
  obtain ⟨e1, e2⟩ := refs_back rv fun x m => by
    obtain ⟨t, e, _⟩ := hall x m
    exact ⟨t, e⟩
  refine SrtO.sorted_pairsO (k := fun u => k (backV u)) hl.isList (by rw [← rv.length]; exact hz) (fun v hv => ?_) fun h' d out h1 h2 kp hd hn => ?_
  · obtain ⟨t, rfl⟩ := e2 v hv
    have hm : V.ref t ∈ xs := by rw [e1]; exact List.mem_map.mpr ⟨_, hv, rfl⟩
    obtain ⟨t', e, ht⟩ := hall _ hm
    cases e
    obtain ⟨its2, r2, ⟨o, ho, hc, n, hd⟩, _⟩ := I.tuple ht
    obtain ⟨u1, u2, rfl, ri, rj⟩ := vals2 r2
    obtain ⟨t1, rfl⟩ := ri
    obtain ⟨t2, rfl⟩ := rj
    exact ⟨t, o, t1, t2, n, rfl, ho, hc, hd⟩
  · have h3 : ∀ u ∈ out, ∃ a, u = Value.ref a := fun u hu => e2 u (h2.perm.mem_iff.mp hu)
    obtain ⟨n, hn⟩ := hn
    have hb : SrtO.Stb (ltP k) (out.map backV) xs := by
      rw [e1]
      exact SrtO.Stb.map (ltP_swo k) backV h2
    have hs : SrtO.Srtd (ltP k) (out.map backV) := SrtO.srtd_map h1
    refine ⟨.ref d, upd H d (.lst (out.map backV)), I.laid (t' := s.toks) kp hd ⟨?_, out, n, vals_back h3, hn⟩, rfl, q _ d k hk hb.perm ?_ (I.hok.fresh hd)⟩
    · rw [hb.len]
      exact hz
    · refine sortP_eq ?_ ?_ (sortP_pw ps)
      · exact ((hb.perm.map k).trans (by rw [hk])).trans (sortP_perm ps).symm
      · exact List.pairwise_map.mpr hs
section
variable {K : PySem.W.Frag} {mg : Str → Option Value} {E : L2.St → XK} {te : TE} {m : ME} {ρ : Env}
def pairsD : List D → Option (List PI)
  | [] => some []
  | .tuple [.int i, .int j] :: r => (pairsD r).map fun ps => (i, j) :: ps
  | _ => none
theorem pairsD_map : ∀ ps : List PI, pairsD (ps.map encI) = some ps
  | [] => rfl
  | p :: ps => by
    show (pairsD (ps.map encI)).map _ = _
    rw [pairsD_map ps]
    rfl
theorem pairsD_eq : ∀ {ds : List D} {ps : List PI}, pairsD ds = some ps → ds = ps.map encI
  | [], ps, e => by cases e; rfl
  | d :: r, ps, e => by
    unfold pairsD at e
    split at e
    · rename_i e0
      cases e0
    · rename_i i j r' e0
      cases e0
      cases z : pairsD r with
      | none => rw [z] at e; cases e
      | some qs =>
        rw [z] at e
        cases e
        rw [pairsD_eq z]
        rfl
    · cases e
def cbSortP : List D → Option D
  | [.list ds] => (pairsD ds).map fun ps => .list ((sortP ps).map encI)
  | _ => none
theorem al_of {F H : Hp} (s : Same F H) : ∀ {vs : List V} {ps : List PI}, RpA K F vs (ps.map encI) → Al K H vs ps
  | [], [], _ => trivial
  | [], _ :: _, h => by cases h
  | _ :: _, [], h => by cases h
  | v :: vs, p :: ps, h => by
    have h : RpA K F (v :: vs) (encI p :: ps.map encI) := h
    cases h with
    | cons h1 h2 =>
      refine ⟨?_, al_of s h2⟩
      cases h1 with
      | tup h3 h4 =>
        cases h4 with
        | cons a1 a2 =>
          cases a1
          cases a2 with
          | cons b1 b2 =>
            cases b1
            cases b2
            exact ⟨_, rfl, s.seqT h3⟩
theorem rp_key {F : Hp} {k : V → PI} : ∀ {vs : List V} {ps : List PI}, RpA K F vs (ps.map encI) → vs.map k = ps → ∀ x ∈ vs, Rp K F x (encI (k x))
  | [], _, _, _, _, hx => by cases hx
  | v :: vs, [], _, e, _, _ => by cases e
  | v :: vs, p :: ps, h, e, x, hx => by
    have h : RpA K F (v :: vs) (encI p :: ps.map encI) := h
    injection e with e1 e2
    cases h with
    | cons h1 h2 =>
      rcases List.mem_cons.mp hx with rfl | hx
      · rw [e1]; exact h1
      · exact rp_key h2 e2 x hx
theorem rpA_key {F : Hp} {k : V → PI} : ∀ {ys : List V}, (∀ x ∈ ys, Rp K F x (encI (k x))) → RpA K F ys ((ys.map k).map encI)
  | [], _ => .nil
  | y :: ys, h => .cons (h y (List.mem_cons_self ..)) (rpA_key fun x hx => h x (List.mem_cons_of_mem _ hx))
theorem cf_sortP : CbF K (rSortP K) cbSortP := fun F H xs ds d Q s rx e q => by
  unfold cbSortP at e
  split at e
  · rename_i es
    obtain ⟨v, rfl, hv⟩ := one_rp rx
    cases z : pairsD es with
    | none => rw [z] at e; cases e
    | some ps =>
      rw [z] at e
      cases e
      have ee := pairsD_eq z
      subst ee
      cases hv with
      | lst h1 h2 =>
        refine ⟨_, _, ps, rfl, SqL.of (s _ _ h1), al_of s h2, fun ys p k hk pm hy np => ?_⟩
        have r := rpA_key (K := K) (F := F) (k := k) (ys := ys) fun x hx => rp_key h2 hk x (pm.mem_iff.mp hx)
        rw [hy] at r
        exact q p _ _ np rfl r
  · cases e
theorem v_sortP {ps : List PI} {Q : D → Prop} (q : Q (.list ((sortP ps).map encI))) : VAL (cbSortP [.list (ps.map encI)]) Q := ⟨_, by show (pairsD (ps.map encI)).map _ = _; rw [pairsD_map]; rfl, q⟩
/-! extend -/
def mExt (j : Nat) (m : ME) : ME := fun ρ => match mu ρ j with
  | some (.list _) => (m ρ).bind fun p => match mu p.2 j, p.1 with
    | some (.list ds), .list es => if ds.length + es.length ≤ 16777216 then .ok (.none, putMu p.2 j (.list (ds ++ es))) else .stuck
    | _, _ => .stuck
  | _ => .stuck
theorem sh_ext {j : Nat} (h : ShE K mg E te m) : ShE K mg E (tBM K "list" rExtend (tVar j) (tCons te tNil)) (mExt j m) := by
  intro Φ F σ H ρ Q W r x g
  unfold mExt at g
  split at g
  · rename_i d0 e0
    obtain ⟨a, ea, _, ow0⟩ := r.mu e0
    refine ⟨_, ea, tyV_own ow0, h Φ F σ H ρ _ W r x ((Good.bind (r := m ρ) g).mono (fun p gp v F1 H1 r1 s1 rv => ?_) fun _ _ _ w => w)⟩
    split at gp
    · rename_i ds es e1 e2
      split at gp
      · rename_i hl
        obtain ⟨a', ea', nF, vs, h1, h2⟩ := r1.mu e1
        rw [ea] at ea'
        cases ea'
        rw [e2] at rv
        cases rv with
        | lst g1 g2 =>
          refine ⟨a, _, vs, _, rfl, rfl, h1, r1.sub _ _ g1, by rw [h2.length, g2.length, sizeLine_eq]; exact hl, ?_⟩
          exact gp _ F1 _ (r1.putMu e1 ea ⟨_, upd_same, h2.append g2⟩) s1 .non
      · exact gp.elim
    · exact gp.elim
  · exact g.elim
def EXT (z a : D) (ρ : Env) (j : Nat) (N : Env → Prop) : Prop := ∃ ds es : List D, z = .list ds ∧ a = .list es ∧ ds.length + es.length ≤ 16777216 ∧ SETS (putMu ρ j (.list (ds ++ es))) N
theorem ext_ {ds es : List D} {ρ : Env} {j : Nat} {N : Env → Prop} (h : ds.length + es.length ≤ 16777216) (q : SETS (putMu ρ j (.list (ds ++ es))) N) : EXT (.list ds) (.list es) ρ j N := ⟨_, _, rfl, rfl, h, q⟩
theorem w_ext {j : Nat} {Q : D → Env → Prop} (q : MU (mu ρ j) fun z => ISL z (Sat (m ρ) fun a ρ1 => MU (mu ρ1 j) fun z => EXT z a ρ1 j fun ρ2 => Q .none ρ2)) : Sat (mExt j m ρ) Q := by
  obtain ⟨_, e0, ⟨xs, rfl⟩, a, ρ1, e1, _, e2, ds, es, rfl, rfl, hl, q⟩ := q
  exact ⟨.none, _, by unfold mExt; rw [e0]; show (m ρ).bind _ = _; rw [e1]; show (match mu ρ1 j, (PyData.list es) with | some (.list ds), .list es => _ | _, _ => _) = _; rw [e2]; show (if ds.length + es.length ≤ 16777216 then _ else _) = _; rw [if_pos hl], q⟩
end
end Mi

set_option Elab.async false
set_option linter.all false
set_option maxRecDepth 100000
namespace Mi
open PySem PySem.Spec PyProof.Rows L2
/-! range of three, upwards -/
def rngC (lo c : Int) (n : Nat) : List D := (List.range n).map fun (i : Nat) => PyData.int (lo + (i : Int) * c)
theorem rngC_get {lo c : Int} {n i : Nat} {d : D} (e : (rngC lo c n)[i]? = some d) : i < n ∧ d = .int (lo + i * c) := by
  unfold rngC at e
  rw [List.getElem?_map] at e
  by_cases h : i < n
  · rw [List.getElem?_range h] at e
    cases e
    exact ⟨h, rfl⟩
  · rw [List.getElem?_eq_none (by rw [List.length_range]; omega)] at e
    cases e
theorem rngC_len (lo c : Int) (n : Nat) : (rngC lo c n).length = n := by unfold rngC; rw [List.length_map, List.length_range]
section
variable {K : PySem.W.Frag} {mg : Str → Option Value} {E : L2.St → XK} {tr : TA} {ms : List ME} {ρ : Env}
theorem walks_rngC (lo c : Int) (n : Nat) (F : Hp) : Walks K (Itc lo c n) F (rngC lo c n) := fun F1 H _ _ i => by
  refine ⟨fun d e => ?_, fun e => ?_⟩
  · obtain ⟨h, rfl⟩ := rngC_get e
    exact ⟨h, fun x H' q => ⟨F1, .inl ⟨rfl, q.1⟩, by rw [q.2]; exact .int _⟩⟩
  · have := List.getElem?_eq_none_iff.mp e
    rw [rngC_len] at this
    exact this
def stepN (i j c : Int) : Nat := (Builtin.Range.rangeSize i j c).toNat
def rOk3 (i j c : Int) : Bool := decide (0 < c) && decide (c < 1073741824) && Builtin.Range.small i j c && decide (0 ≤ Builtin.Range.rangeSize i j c)
def itR3 (ms : List ME) : MA := fun ρ => (mA ms ρ).bind fun p => match p.1 with
  | [.int i, .int j, .int c] => if rOk3 i j c = true then .ok (rngC i c (stepN i j c), p.2) else .stuck
  | _ => .stuck
theorem shi_rng3 (h : ShA K mg E tr ms) : ShI K mg E (iRng3 tr) (itR3 ms) := by
  intro Φ F σ H ρ Rr W r x g
  have g1 := Good.bind (r := mA ms ρ) g
  refine h Φ F σ H ρ _ W r x (g1.mono (fun p gp vs F1 H1 r1 s1 rv el => ?_) fun _ _ _ w => w)
  obtain ⟨ds, ρ'⟩ := p
  dsimp only at gp rv r1
  split at gp
  · rename_i i j c
    cases rv with
    | cons a1 rv =>
      cases rv with
      | cons a2 rv =>
        cases rv with
        | cons a3 rv =>
          cases rv
          cases a1
          cases a2
          cases a3
          split at gp
          · rename_i hn
            unfold rOk3 at hn
            simp only [Bool.and_eq_true, decide_eq_true_eq] at hn
            obtain ⟨⟨⟨h1, h2⟩, h3⟩, h4⟩ := hn
            refine ⟨i, j, c, stepN i j c, rfl, ⟨by omega, by omega, h3, ?_⟩, gp _ F1 H1 r1 s1 (walks_rngC i c _ _)⟩
            unfold stepN
            omega
          · exact gp.elim
  · exact gp.elim
def R3 (ds : List D) (N : List D → Prop) : Prop := ∃ i j c, ds = [.int i, .int j, .int c] ∧ rOk3 i j c = true ∧ N (rngC i c (stepN i j c))
theorem r3_ {i j c : Int} {N : List D → Prop} (h : rOk3 i j c = true) (q : N (rngC i c (stepN i j c))) : R3 [.int i, .int j, .int c] N := ⟨i, j, c, rfl, h, q⟩
theorem w_r3 {QA : List D → Env → Prop} (q : SatA (mA ms ρ) fun ds ρ1 => R3 ds fun xs => QA xs ρ1) : SatA (itR3 ms ρ) QA := by
  obtain ⟨ds, ρ1, e1, i, j, c, rfl, h, q⟩ := q
  exact ⟨_, ρ1, by unfold itR3; rw [e1]; dsimp only [Res.bind]; rw [if_pos h], q⟩
theorem step_eq {i j c : Int} (hc : 0 < c) : Builtin.Range.rangeSize i j c = if i < j then (j - i - 1) / c + 1 else 0 := by
  unfold Builtin.Range.rangeSize
  rw [if_pos hc]
theorem ok3 {i j c : Int} (hc : 0 < c) (hc2 : c < 1073741824) (h1 : -(2 ^ 61) ≤ i) (h2 : i < 2 ^ 61) (h3 : -(2 ^ 61) ≤ j) (h4 : j < 2 ^ 61) : rOk3 i j c = true := by
  have hs := step_eq (i := i) (j := j) hc
  have nn : 0 ≤ Builtin.Range.rangeSize i j c ∧ Builtin.Range.rangeSize i j c ≤ 2 ^ 62 := by
    rw [hs]
    split
    · have a := Int.ediv_nonneg (a := j - i - 1) (b := c) (by omega) (by omega)
      have b := Int.ediv_le_self (a := j - i - 1) c (by omega)
      omega
    · omega
  unfold rOk3
  simp only [Bool.and_eq_true, decide_eq_true_eq]
  refine ⟨⟨⟨hc, hc2⟩, ?_⟩, nn.1⟩
  unfold Builtin.Range.small
  generalize Builtin.Range.rangeSize i j c = s at nn
  simp only [Builtin.Range.rangeFitsLong, Bool.and_eq_true, Bool.or_eq_true, decide_eq_true_eq, beq_iff_eq, show c > 0 from hc, if_true]
  omega
end
end Mi

set_option Elab.async false
set_option linter.all false
set_option maxRecDepth 100000
namespace Mi
open PySem PySem.Spec PyProof.Rows L2
section
variable {K : PySem.W.Frag} {mg : Str → Option Value} {E : L2.St → XK} {te : TE} {tr : TA} {m : ME} {ms : List ME} {ρ : Env} {Q : D → Env → Prop}
/-! list(range(a, b, c)) -/
def tLR3 (ta : TA) : TE := fun σ H Q => ta σ H fun vs H1 => ∃ i j k : Int, vs = [.int i, .int j, .int k] ∧ rOk3 i j k = true ∧ stepN i j k ≤ 16777216 ∧
  ∀ q, H1 q = none → Q (.ref q) (upd H1 q (.lst ((List.range (stepN i j k)).map fun (z : Nat) => V.int (i + (z : Int) * k))))
theorem pe_listR3 {X : Cx} {a b c : Expr} {ta : TA} {p p2 q2 pos : Pos} (hc : X.calm = true) (gl : Gl X "list") (ml : X.mg "list" = none) (gr : Gl X "range") (mr : X.mg "range" = none) (ha : PA X [a, b, c] ta)
    (n1 : starEach [.Call (.Name "range" p2) [a, b, c] [] q2] X.env = (false, eval (.Call (.Name "range" p2) [a, b, c] [] q2) X.env) :: starEach [] X.env := by rfl)
    (n2 : starEach [a, b, c] X.env = (false, eval a X.env) :: starEach [b, c] X.env := by rfl) (n3 : (backTo q2 (starEach [b, c] X.env)).any (·.1) = false := by rfl) :
    PE X (.Call (.Name "list" p) [.Call (.Name "range" p2) [a, b, c] [] q2] [] pos) (tLR3 ta) := by
  refine ⟨fun pins s σ H Q I h => Call_ (ld_blt I gl ml boot_list (PyProof.Rows.callWith_type1 (args_cons ?_ n1) n1))⟩
  refine Call_ (ld_blt I gr mr boot_range (PyProof.Rows.callWith_type1 (thn (ha.run q2 pins s σ H _ I h) fun us s1 ⟨vs, H1, I1, rv, z⟩ => ?_) n2 n3))
  obtain ⟨i, j, k, rfl, ok, room, fin⟩ := z
  cases rv with
  | cons r1 rv =>
    cases rv with
    | cons r2 rv =>
      cases rv with
      | cons r3 rv =>
        cases rv
        obtain ⟨t1, rfl⟩ := r1
        obtain ⟨t2, rfl⟩ := r2
        obtain ⟨t3, rfl⟩ := r3
        unfold rOk3 at ok
        simp only [Bool.and_eq_true, decide_eq_true_eq] at ok
        obtain ⟨⟨⟨o1, o2⟩, o3⟩, o4⟩ := ok
        refine call_range_3 (by omega) ?_ (.inl (PyProof.noPylong_small (by omega)))
        refine args_nil ?_
        have I2 : Inv X pins σ H1 { s1 with heap := s1.heap.push { cls := .type "range", data := .fields #[.int i t1, .int j t2, .int k t3] } } := I1.kept (t' := s1.toks) fun b o e => Heap.get?_push_of_some _ e
        refine call_list_range (n := stepN i j k) (I2.ok.hd hc) (IsRange.new ..) o3 (by unfold stepN; omega) (by omega) fun h' tk acc c' hk e' hi => ?_
        have hv : Vals ((List.range (stepN i j k)).map fun (z : Nat) => V.int (i + (z : Int) * k)) acc.toList := by
          have el : acc.toList.length = stepN i j k := by rw [Array.length_toList]; exact hi.1
          rw [← el]
          refine vals_of_get acc.toList _ fun z u hz => ?_
          obtain ⟨t, rfl⟩ := hi.2 z u (by rw [← hz, Array.getElem?_toList])
          exact ⟨t, rfl⟩
        exact ⟨.ref _, upd H1 _ (.lst _), I2.laid hk (Nat.le_refl _) ⟨by rw [List.length_map, List.length_range, sizeLine_eq]; omega, acc.toList, c', hv, by rw [Array.toArray_toList]; exact e'⟩, rfl, fin _ (I2.hok.fresh (Nat.le_refl _))⟩
def mLR3 (ms : List ME) : ME := fun ρ => (mA ms ρ).bind fun p => match p.1 with
  | [.int i, .int j, .int c] => if (rOk3 i j c && decide (stepN i j c ≤ 16777216)) = true then .ok (.list (rngC i c (stepN i j c)), p.2) else .stuck
  | _ => .stuck
theorem rpA_rngC {F : Hp} (i k : Int) (n : Nat) : RpA K F ((List.range n).map fun (z : Nat) => V.int (i + (z : Int) * k)) (rngC i k n) := by
  unfold rngC
  generalize List.range n = l
  induction l with
  | nil => exact .nil
  | cons a r ih => exact .cons (.int _) ih
theorem shf_lr3 (h : ShA K mg E tr ms) : ShF K mg E (tLR3 tr) (mLR3 ms) := by
  intro Φ F σ H ρ Q W r x g
  have g1 := Good.bind (r := mA ms ρ) g
  refine h Φ F σ H ρ _ W r x (g1.mono (fun p gp vs F1 H1 r1 s1 rv el => ?_) fun _ _ _ w => w)
  obtain ⟨ds, ρ'⟩ := p
  dsimp only at gp rv r1
  split at gp
  · rename_i i j c
    cases rv with
    | cons a1 rv =>
      cases rv with
      | cons a2 rv =>
        cases rv with
        | cons a3 rv =>
          cases rv
          cases a1
          cases a2
          cases a3
          split at gp
          · rename_i hn
            rw [Bool.and_eq_true, decide_eq_true_eq] at hn
            refine ⟨i, j, c, rfl, hn.1, hn.2, fun q hq => ?_⟩
            obtain ⟨r2, nF, n0, ap⟩ := r1.allocO (o := .lst _) hq
            exact gp q _ _ r2 s1 nF n0 ap ⟨_, upd_same, rpA_rngC i c _⟩
          · exact gp.elim
  · exact gp.elim
def LR3 (ds : List D) (N : D → Prop) : Prop := ∃ i j c, ds = [.int i, .int j, .int c] ∧ rOk3 i j c = true ∧ stepN i j c ≤ 16777216 ∧ N (.list (rngC i c (stepN i j c)))
theorem lr3_ {i j c : Int} {N : D → Prop} (h : rOk3 i j c = true) (h2 : stepN i j c ≤ 16777216) (q : N (.list (rngC i c (stepN i j c)))) : LR3 [.int i, .int j, .int c] N := ⟨i, j, c, rfl, h, h2, q⟩
theorem w_lr3 (q : SatA (mA ms ρ) fun ds ρ1 => LR3 ds fun d => Q d ρ1) : Sat (mLR3 ms ρ) Q := by
  obtain ⟨ds, ρ1, e1, i, j, c, rfl, h, h2, q⟩ := q
  exact ⟨_, ρ1, by unfold mLR3; rw [e1]; dsimp only [Res.bind]; rw [if_pos (by rw [h, Bool.true_and]; exact decide_eq_true h2)], q⟩
end
end Mi

set_option Elab.async false
set_option linter.all false
set_option maxRecDepth 100000
namespace Mi
open PySem PySem.Spec PyProof.Rows L2
section
variable {P : Program} {w : World} {A : Around} {E : Value → Shared → Prop} {s : Shared}
abbrev newSet (w : World) : Obj := { cls := .type "set", dict := none, data := .set #[] 0 (.fresh 0 0 (!w.params.followText "set-order")) }
/-- what set.__init__ does to a new set, over a list of ints -/
def Filled (w : World) (ns : List Int) (h0 : Heap) (p : Addr) (h' : Heap) (c : Nat) : Prop := SetR w h' p (fun j => decide (j ∈ ns)) c ∧ c ≤ ns.length ∧ ∀ b o, h0.get? b = some o → h'.get? b = some o
theorem init_set {l p : Addr} {items : Array Value} {ns : List Int} {h0 : Heap} (hh : A.handled = none) (hp : p = h0.objs.size) (es : s.heap = h0.push (newSet w)) (hl : h0.IsList l items) (hi : IntsAre items.toList ns) (hb : ns.length + 1 < scanBound) :
    wpAny (model P w) A.in1 (Builtin.«set.__init__» ⟨[.ref p, .ref l], []⟩) (fun fin s' => match fin with
      | .done f => wants (fun r s₂ => r = .none ∧ ∃ h' tk c, s₂ = { s with heap := h', toks := tk } ∧ Filled w ns h0 p h' c) E (.ok f) s'
      | .again c' => c'.quiet = true ∧ codeAny (model P w) A c' (wants (fun r s₂ => r = .none ∧ ∃ h' tk c, s₂ = { s with heap := h', toks := tk } ∧ Filled w ns h0 p h' c) E) s')
      (fun e s' => wants (fun r s₂ => r = .none ∧ ∃ h' tk c, s₂ = { s with heap := h', toks := tk } ∧ Filled w ns h0 p h' c) E (.error e) s') s := by
  obtain ⟨⟨k0, d0, b0, z0⟩, hol, hc0, n0, hd0⟩ := hl
  simp only at hc0 hd0
  subst hc0 hd0
  have here : s.heap.get? p = some (newSet w) := by rw [es, hp]; exact Heap.get?_push_size _ rfl
  have there : s.heap.get? l = some ⟨.type "list", d0, .seq items n0, z0⟩ := by rw [es]; exact Heap.get?_push_of_some _ hol
  have isl : s.heap.IsList l items := ⟨_, there, rfl, n0, rfl⟩
  have y1 := F.sub_list_set
  have y2 := F.sub_list_frozenset
  have y3 : (Value.type "list" == Value.type "dict") = false := by decide
  have lt : l < h0.objs.size := Heap.lt_size hol
  have sz : s.heap.objs.size = h0.objs.size + 1 := by rw [es]; exact Heap.size_push ..
  have len : items.size = ns.length := by
    have := IntsAre.length hi
    rwa [Array.length_toList] at this
  unfold Builtin.«set.__init__» noKeywords Builtin.Frozenset.updateFrom
  generalize ePI : pyIter = PI
  wp_walk
  subst ePI
  refine wpAny_pyIter_list isl (wpAny_bind (wpAny_runValue ?_))
  have neI : l ≠ s.heap.objs.size := Nat.ne_of_lt (by rw [sz]; exact Nat.lt_succ_of_lt lt)
  have far : p ∉ [s.heap.objs.size, l] := by
    rw [List.mem_cons, List.mem_singleton, not_or]
    exact ⟨by rw [hp, sz]; exact Nat.ne_of_lt (Nat.lt_succ_self _), by rw [hp]; exact Nat.ne_of_gt lt⟩
  refine set_update_ints ((Walks.list (by simp [hh]) _ l neI items).toS) p far ns len hb (fun i v hv => ?_) items.size 0 _ (by omega) (Nat.zero_le _) ⟨⟨_, Heap.get?_push_size _ rfl, rfl, rfl⟩, isl.push _⟩ ⟨0, Nat.le_refl 0, setR_new_at (Heap.get?_push_of_some _ here)⟩ (fun s' c mv hc hR => ?_)
  · have hi' : i < ns.length := by rw [← len]; exact (Array.getElem?_eq_some_iff.mp hv).1
    obtain ⟨t, rfl⟩ := IntsAre.int_at hi i v (by rw [Array.getElem?_toList]; exact hv)
    exact ⟨ns[i], t, List.getElem?_eq_getElem hi', by rw [List.getD_eq_getElem?_getD, List.getElem?_eq_getElem hi']; rfl⟩
  · obtain ⟨h', g', d', tk', os'⟩ := s'
    have eg : g' = s.gens := mv.gens
    have ed : d' = s.drawn := mv.drawn
    have eo : os' = s.os := mv.os
    subst eg ed eo
    show wpAny _ _ _ _ _ _
    refine wpAny_pure ?_
    show wpAny _ _ (PySem.ret Value.none) _ _ _
    refine wpAny_pure ⟨rfl, h', tk', c, rfl, hR, by omega, fun b o e => ?_⟩
    have lb := Heap.lt_size e
    have e2 : s.heap.get? b = some o := by rw [es]; exact Heap.get?_push_of_some _ e
    refine mv.heap b o ?_ (Heap.get?_push_of_some _ e2)
    rw [List.mem_cons, List.mem_singleton, not_or]
    exact ⟨by rw [hp]; exact Nat.ne_of_lt lb, by rw [sz]; exact Nat.ne_of_lt (Nat.lt_succ_of_lt lb)⟩
theorem call_set_ints {l : Addr} {items : Array Value} {ns : List Int} {Q : Value → Shared → Prop} (hh : A.handled = none) (hl : s.heap.IsList l items) (hi : IntsAre items.toList ns) (hb : ns.length + 1 < scanBound)
    (q : ∀ (h' : Heap) (tk c : Nat), Filled w ns s.heap s.heap.objs.size h' c → Q (.ref s.heap.objs.size) { s with heap := h', toks := tk }) : wpAny (model P w) A (call (.type "set") [.ref l]) Q E s := by
  have made := F.called_set.made
  have subs := F.called_set.sub
  obtain ⟨cc, tl, mro⟩ := F.called_set.mro
  refine wpAny_call (codeAny_of_tree ?_)
  show wpAny _ _ (callAny (.type "set") _) _ _ _
  refine wpAny_pure ⟨Code.quiet_builtin _ (by decide +kernel), codeAny_builtin F.entry_type_call ?_⟩
  rw [Around.under_plain (weight_type_call_type "set" [.ref l] []) rfl]
  have g1 := F.called_set.notType
  have g2 := F.called_set.canCreate
  have g3 := F.typeCall_set_1 (.ref l)
  repeat (any_goals (first | assumption | wp_step))
  refine codeAny_mono (code_set_led1 (.ref l) (E := E) (Q₁ := fun obj t => obj = .ref s.heap.objs.size ∧ t = { s with heap := s.heap.push (newSet w) }) ⟨rfl, rfl⟩) fun r t ht => ?_
  match r, ht with
  | .error e, ht => exact ht
  | .ok (.ret obj), ht =>
    obtain ⟨rfl, rfl⟩ := ht
    have new : (s.heap.push (newSet w)).get? s.heap.objs.size = some (newSet w) := Heap.get?_push_size _ rfl
    have isS : Shared.TypeIs { s with heap := s.heap.push (newSet w) } (.ref s.heap.objs.size) "set" := ⟨_, new, rfl⟩
    have g4 := F.called_set.init.lookup
    have g5 := F.called_set.init.bind (.ref s.heap.objs.size)
    repeat (any_goals (first | assumption | wp_step))
    refine codeAny_mono (codeAny_call_builtin (R := wants (fun r u => r = .none ∧ ∃ h' tk c, u = { s with heap := h', toks := tk } ∧ Filled w ns s.heap s.heap.objs.size h' c) E) F.called_set.init.plain F.entry_set_init (check_set_init_1 isS ?_)) fun r u hu => ?_
    · refine init_set (s := { s with heap := s.heap.push (newSet w) }) ?_ rfl rfl hl hi hb
      first | exact hh | simp [hh]
    · match r, hu with
      | .error e, hu => exact hu
      | .ok (.ret r), hu =>
        obtain ⟨rfl, h', tk, c, rfl, hf⟩ := hu
        repeat (any_goals (first | assumption | wp_step))
        exact q h' tk c hf
end
/-! the ints of a list, each once, in order -/
def insU (x : Int) : List Int → List Int
  | [] => [x]
  | y :: ys => if x < y then x :: y :: ys else if x = y then y :: ys else y :: insU x ys
def ssI (ns : List Int) : List Int := ns.foldr insU []
theorem mem_insU {x z : Int} : ∀ {ys : List Int}, z ∈ insU x ys ↔ z = x ∨ z ∈ ys
  | [] => by simp [insU]
  | y :: ys => by
    unfold insU
    split
    · simp
    · split
      · rename_i e
        subst e
        simp
      · rw [List.mem_cons, mem_insU, List.mem_cons]
        constructor
        · rintro (h | h | h) <;> simp [h]
        · rintro (h | h | h) <;> simp [h]
theorem insU_pw {x : Int} : ∀ {ys : List Int}, ys.Pairwise (· < ·) → (insU x ys).Pairwise (· < ·)
  | [], _ => List.pairwise_singleton ..
  | y :: ys, h => by
    obtain ⟨h1, h2⟩ := List.pairwise_cons.mp h
    unfold insU
    split
    · refine List.pairwise_cons.mpr ⟨fun z hz => ?_, h⟩
      rcases List.mem_cons.mp hz with rfl | hz
      · assumption
      · have := h1 z hz
        omega
    · split
      · exact h
      · refine List.pairwise_cons.mpr ⟨fun z hz => ?_, insU_pw h2⟩
        rcases mem_insU.mp hz with rfl | hz
        · omega
        · exact h1 z hz
theorem insU_len {x : Int} : ∀ {ys : List Int}, (insU x ys).length ≤ ys.length + 1
  | [] => by simp [insU]
  | y :: ys => by
    have := insU_len (x := x) (ys := ys)
    unfold insU
    split
    · simp
    · split
      · simp
      · simp; omega
theorem ssI_pw : ∀ ns : List Int, (ssI ns).Pairwise (· < ·)
  | [] => .nil
  | n :: ns => insU_pw (ssI_pw ns)
theorem mem_ssI {z : Int} : ∀ {ns : List Int}, z ∈ ssI ns ↔ z ∈ ns
  | [] => Iff.rfl
  | n :: ns => by
    show z ∈ insU n (ssI ns) ↔ _
    rw [mem_insU, mem_ssI, List.mem_cons]
theorem ssI_len : ∀ ns : List Int, (ssI ns).length ≤ ns.length
  | [] => Nat.le_refl 0
  | n :: ns => by
    have a := insU_len (x := n) (ys := ssI ns)
    have b := ssI_len ns
    show (insU n (ssI ns)).length ≤ _
    rw [List.length_cons]
    omega
section
variable {K : PySem.W.Frag} {mg : Str → Option Value} {E : L2.St → XK} {te : TE} {m : ME} {ρ : Env} {Q : D → Env → Prop} {w : World}
/-- set(xs), xs a list of ints -/
def rSetI (K : PySem.W.Frag) (w : World) : List V → Hp → VK → Prop := fun xs H Q => ∃ (l : Addr) (ns : List Int), xs = [V.ref l] ∧ SqL K H l (ns.map V.int) ∧ ns.length < 1000 ∧ ∀ (p : Addr) (c : Nat), H p = none → c ≤ ns.length → Q (.ref p) (upd H p (SetO w p (fun j => decide (j ∈ ns)) c))
theorem cr_setI {X : Cx} (hc : X.calm = true) : CallR X (.type "set") (rSetI X.K X.w) := by
  intro pins s σ H vs us Q I r h
  obtain ⟨l, ns, rfl, hl, hn, q⟩ := h
  obtain ⟨its, rv, pl, hz⟩ := I.list hl
  rw [Vals.ref1 r]
  refine call_set_ints (ns := ns) (I.ok.hd hc) pl.isList (by simpa using rv.ints) (by unfold scanBound; omega) fun h' tk c hf => ?_
  obtain ⟨hR, hc, hk⟩ := hf
  exact ⟨.ref s.heap.objs.size, upd H s.heap.objs.size (SetO X.w s.heap.objs.size (fun j => decide (j ∈ ns)) c), I.laid (t' := tk) hk (Nat.le_refl _) (setO_new hR), rfl, q _ c (I.hok.fresh (Nat.le_refl _)) hc⟩
/-- sorted(set(xs)) -/
def mSS (m : ME) : ME := fun ρ => (m ρ).bind fun p => match p.1 with
  | .list ds => match intsD ds with
    | some ns => if ns.length < 64 then .ok (.list ((ssI ns).map .int), p.2) else .stuck
    | none => .stuck
  | _ => .stuck
theorem shf_ss (h : ShE K mg E te m) : ShF K mg E (tCB (rSortedSet w) (tCons (tCB (rSetI K w) (tCons te tNil)) tNil)) (mSS m) := by
  intro Φ F σ H ρ Q W r x g
  have g1 := Good.bind (r := m ρ) g
  refine h Φ F σ H ρ _ W r x (g1.mono (fun p gp v F1 H1 r1 s1 rv => ?_) fun _ _ _ w => w)
  obtain ⟨d, ρ'⟩ := p
  dsimp only at gp rv r1
  split at gp
  · rename_i ds
    cases e : intsD ds with
    | none => rw [e] at gp; exact gp.elim
    | some ns =>
      rw [e] at gp
      dsimp only at gp
      split at gp
      · rename_i hl
        cases rv with
        | lst h1 h2 =>
          refine ⟨_, ns, rfl, by rw [← h2.ints (intsD_eq e)]; exact SqL.of (r1.sub _ _ h1), by omega, fun p c hp hc => ?_⟩
          obtain ⟨r2, s2⟩ := r1.alloc (o := SetO w p (fun j => decide (j ∈ ns)) c) hp
          refine ⟨p, _, c, rfl, upd_same, by omega, fun ns' q hpw hmem hlen hq => ?_⟩
          have : ns' = ssI ns := asc_ext hpw (ssI_pw ns) fun z => by rw [hmem, mem_ssI]; exact decide_eq_true_iff
          subst this
          obtain ⟨r3, nF, n0, ap⟩ := r2.allocO (o := .lst ((ssI ns).map V.int)) hq
          exact gp q _ _ r3 (s1.trans s2) nF n0 ap ⟨_, upd_same, RpA.ofInts _⟩
      · exact gp.elim
  · exact gp.elim
def SS (d : D) (N : D → Prop) : Prop := ∃ ns : List Int, d = .list (ns.map .int) ∧ ns.length < 64 ∧ N (.list ((ssI ns).map .int))
theorem ss_ {ns : List Int} {N : D → Prop} (h : ns.length < 64) (q : N (.list ((ssI ns).map .int))) : SS (.list (ns.map .int)) N := ⟨ns, rfl, h, q⟩
theorem w_ss (q : Sat (m ρ) fun d ρ1 => SS d fun z => Q z ρ1) : Sat (mSS m ρ) Q := by
  obtain ⟨d, ρ1, e1, ns, rfl, h, q⟩ := q
  exact ⟨_, ρ1, by unfold mSS; rw [e1]; dsimp only [Res.bind]; rw [intsD_map]; dsimp only; rw [if_pos h], q⟩
end
end Mi

set_option Elab.async false
set_option linter.all false
set_option maxRecDepth 100000
namespace Mi
open PySem PySem.Spec PyProof.Rows L2
section
variable {K : PySem.W.Frag} {mg : Str → Option Value} {E : L2.St → XK} {te : TE} {tr : TA} {m : ME} {ms : List ME} {ρ : Env} {Q : D → Env → Prop} {QA : List D → Env → Prop}
/-! enumerate -/
def enD : Nat → List D → List D
  | _, [] => []
  | n, x :: xs => .tuple [.int n, x] :: enD (n + 1) xs
theorem enD_get : ∀ {n : Nat} {xs : List D} {i : Nat} {d : D}, (enD n xs)[i]? = some d → ∃ x, xs[i]? = some x ∧ d = .tuple [.int ((n + i : Nat) : Int), x]
  | _, [], _, _, e => by simp [enD] at e
  | n, x :: xs, 0, d, e => by simp [enD] at e; exact ⟨x, rfl, by rw [← e]; simp⟩
  | n, x :: xs, i + 1, d, e => by
    obtain ⟨y, h1, h2⟩ := enD_get (n := n + 1) (xs := xs) (i := i) (d := d) (by simpa [enD] using e)
    exact ⟨y, by simpa using h1, by rw [h2, show n + 1 + i = n + (i + 1) by omega]⟩
theorem enD_len : ∀ {n : Nat} {xs : List D}, (enD n xs).length = xs.length
  | _, [] => rfl
  | n, x :: xs => by show (enD (n + 1) xs).length + 1 = xs.length + 1; rw [enD_len]
theorem enD_map {α : Type} (f : α → D) : ∀ (n : Nat) (xs : List α), enD n (xs.map f) = (xs.zipIdx n).map fun p => .tuple [.int p.2, f p.1]
  | _, [] => rfl
  | n, x :: xs => by
    rw [List.zipIdx_cons, List.map_cons, List.map_cons]
    show _ :: enD (n + 1) (xs.map f) = _
    rw [enD_map f (n + 1) xs]
def itE (ms : List ME) : MA := fun ρ => (mA ms ρ).bind fun p => match p.1 with
  | [.list xs] => .ok (enD 0 xs, p.2)
  | _ => .stuck
theorem walks_enum {F : Hp} {a : Addr} {xs : List V} {ds : List D} (h1 : SqL K F a xs) (r1 : RpA K F xs ds) : Walks K (Ite K a) F (enD 0 ds) := fun F1 H sa sb i => by
  refine ⟨fun d e => ?_, fun e => ?_⟩
  · obtain ⟨x, e1, rfl⟩ := enD_get e
    obtain ⟨v, q1, q2⟩ := r1.get' e1
    refine ⟨⟨xs, v, sb.seq (sa.seq h1), q1⟩, fun z H' q => ?_⟩
    obtain ⟨T, x', rfl, nT, rfl, g1⟩ := q
    have e3 := g1 xs (sb.seq (sa.seq h1))
    rw [q1] at e3
    cases e3
    have sT : Same F1 (upd F1 T (.tup [.int ((i : Nat) : Int), v])) := sub_upd (sb.free nT)
    refine ⟨_, .inr ⟨T, _, nT, rfl, rfl⟩, .tup (SqT.of upd_same) (.cons ?_ (.cons (q2.mono (sa.trans sT)) .nil))⟩
    rw [Nat.zero_add]
    exact .int _
  · have := List.getElem?_eq_none_iff.mp e
    rw [enD_len] at this
    exact ⟨xs, sb.seq (sa.seq h1), by rw [r1.length]; exact this⟩
theorem shi_enum (h : ShA K mg E tr ms) : ShI K mg E (iEnum K tr) (itE ms) := by
  intro Φ F σ H ρ Rr W r x g
  have g1 := Good.bind (r := mA ms ρ) g
  refine h Φ F σ H ρ _ W r x (g1.mono (fun p gp vs F1 H1 r1 s1 rv el => ?_) fun _ _ _ w => w)
  obtain ⟨ds, ρ'⟩ := p
  dsimp only at gp rv r1
  split at gp
  · obtain ⟨v, rfl, hv⟩ := one_rp rv
    cases hv with
    | lst h1 h2 => exact ⟨_, _, rfl, SqL.of (r1.sub _ _ h1), gp _ F1 H1 r1 s1 (walks_enum (SqL.of h1) h2)⟩
  · exact gp.elim
def EN (ds : List D) (N : List D → Prop) : Prop := ∃ xs, ds = [.list xs] ∧ N (enD 0 xs)
theorem en_ {xs : List D} {N : List D → Prop} (q : N (enD 0 xs)) : EN [.list xs] N := ⟨xs, rfl, q⟩
theorem w_enum (q : SatA (mA ms ρ) fun ds ρ1 => EN ds fun xs => QA xs ρ1) : SatA (itE ms ρ) QA := by
  obtain ⟨ds, ρ1, e1, xs, rfl, q⟩ := q
  exact ⟨_, ρ1, by unfold itE; rw [e1]; rfl, q⟩
/-! own.pop(i) -/
def mPopAt (j : Nat) (m : ME) : ME := fun ρ => match mu ρ j with
  | some (.list _) => (m ρ).bind fun p => match mu p.2 j, p.1 with
    | some (.list ds), .int i => if 0 ≤ i ∧ i < 1000000000 then (match ds[i.toNat]? with
      | some y => .ok (y, putMu p.2 j (.list (ds.eraseIdx i.toNat)))
      | none => .stuck) else .stuck
    | _, _ => .stuck
  | _ => .stuck
theorem RpA.erase {F : Hp} : ∀ {vs : List V} {ds : List D} (k : Nat), RpA K F vs ds → RpA K F (vs.eraseIdx k) (ds.eraseIdx k)
  | _, _, _, .nil => .nil
  | _, _, 0, .cons _ r => r
  | _, _, k + 1, .cons h r => .cons h (RpA.erase k r)
theorem sh_popAt {j : Nat} (h : ShE K mg E te m) : ShE K mg E (tBM K "list" rPopAt (tVar j) (tCons te tNil)) (mPopAt j m) := by
  intro Φ F σ H ρ Q W r x g
  unfold mPopAt at g
  split at g
  · rename_i d0 e0
    obtain ⟨a, ea, _, ow0⟩ := r.mu e0
    refine ⟨_, ea, tyV_own ow0, h Φ F σ H ρ _ W r x ((Good.bind (r := m ρ) g).mono (fun p gp v F1 H1 r1 s1 rv => ?_) fun _ _ _ w => w)⟩
    split at gp
    · rename_i ds i e1 e2
      split at gp
      · rename_i hl
        split at gp
        · rename_i y ey
          obtain ⟨a', ea', nF, vs, h1, h2⟩ := r1.mu e1
          rw [ea] at ea'
          cases ea'
          rw [e2] at rv
          cases rv
          obtain ⟨u, eu, ru⟩ := h2.get' ey
          have hk := (List.getElem?_eq_some_iff.mp eu).1
          have sx : seqIndex? i vs.length = some i.toNat := by
            unfold seqIndex?
            simp only [show ¬ i < 0 by omega, if_false]
            have : (decide (0 ≤ i) && decide (i < (vs.length : Int))) = true := by
              rw [Bool.and_eq_true, decide_eq_true_eq, decide_eq_true_eq]
              omega
            rw [if_pos this]
          refine ⟨a, vs, i, i.toNat, u, rfl, rfl, h1, by omega, by omega, sx, eu, ?_⟩
          exact gp _ F1 _ (r1.putMu e1 ea ⟨_, upd_same, h2.erase _⟩) s1 ru
        · exact gp.elim
      · exact gp.elim
    · exact gp.elim
  · exact g.elim
def POPA (z a : D) (ρ : Env) (j : Nat) (N : D → Env → Prop) : Prop := ∃ (ds : List D) (i : Int) (y : D), z = .list ds ∧ a = .int i ∧ (0 ≤ i ∧ i < 1000000000) ∧ ds[i.toNat]? = some y ∧ SETS (putMu ρ j (.list (ds.eraseIdx i.toNat))) (N y)
theorem popa_ {ds : List D} {i : Int} {y : D} {ρ : Env} {j : Nat} {N : D → Env → Prop} (h : 0 ≤ i ∧ i < 1000000000) (e : ds[i.toNat]? = some y) (q : SETS (putMu ρ j (.list (ds.eraseIdx i.toNat))) (N y)) : POPA (.list ds) (.int i) ρ j N := ⟨_, _, y, rfl, rfl, h, e, q⟩
theorem w_popAt {j : Nat} (q : MU (mu ρ j) fun z => ISL z (Sat (m ρ) fun a ρ1 => MU (mu ρ1 j) fun z => POPA z a ρ1 j Q)) : Sat (mPopAt j m ρ) Q := by
  obtain ⟨_, e0, ⟨xs, rfl⟩, a, ρ1, e1, _, e2, ds, i, y, rfl, rfl, hl, ey, q⟩ := q
  exact ⟨y, _, by unfold mPopAt; rw [e0]; show (m ρ).bind _ = _; rw [e1]; show (match mu ρ1 j, (PyData.int i) with | some (.list ds), .int i => _ | _, _ => _) = _; rw [e2]; show (if 0 ≤ i ∧ i < 1000000000 then _ else _) = _; rw [if_pos hl, ey], q⟩
end
theorem enD_at : ∀ {n : Nat} {xs : List D} {i : Nat} {x : D}, xs[i]? = some x → (enD n xs)[i]? = some (.tuple [.int ((n + i : Nat) : Int), x])
  | _, [], _, _, e => by simp at e
  | n, y :: xs, 0, x, e => by simp at e; subst e; simp [enD]
  | n, y :: xs, i + 1, x, e => by
    have := enD_at (n := n + 1) (xs := xs) (i := i) (x := x) (by simpa using e)
    rw [show n + 1 + i = n + (i + 1) by omega] at this
    simpa [enD] using this
theorem enD_rng {α : Type} (f : α → D) (d : α) (xs : List α) : enD 0 (xs.map f) = (rngI 0 xs.length).map fun k => .tuple [.int k, f (xs.getD k.toNat d)] := by
  apply List.ext_getElem?
  intro i
  by_cases h : i < xs.length
  · rw [enD_at (x := f (xs.getD i d)) (by rw [List.getElem?_map, List.getElem?_eq_getElem h, List.getD_eq_getElem?_getD, List.getElem?_eq_getElem h]; rfl), List.getElem?_map, rngI_get h]
    dsimp only [Option.map]
    rw [show (0 + (i : Int)).toNat = i by omega, Nat.zero_add, Int.zero_add]
  · rw [List.getElem?_eq_none (by rw [enD_len, List.length_map]; omega), List.getElem?_eq_none (by rw [List.length_map, rngI_len]; omega)]
theorem zipD_at : ∀ {xs ys : List D} {i : Nat} {x y : D}, xs[i]? = some x → ys[i]? = some y → (zipD xs ys)[i]? = some (.tuple [x, y])
  | [], _, _, _, _, e, _ => by simp at e
  | _ :: _, [], _, _, _, _, e => by simp at e
  | a :: xs, b :: ys, 0, x, y, e, g => by simp at e g; subst e g; simp [zipD]
  | a :: xs, b :: ys, i + 1, x, y, e, g => by simpa [zipD] using zipD_at (xs := xs) (ys := ys) (i := i) (by simpa using e) (by simpa using g)
theorem zipD_rng {α : Type} (f : α → D) (d : α) (xs : List α) : zipD (xs.map f) ((xs.map f).drop 1) = (rngI 0 (xs.length - 1)).map fun k => .tuple [f (xs.getD k.toNat d), f (xs.getD (k.toNat + 1) d)] := by
  apply List.ext_getElem?
  intro i
  have e : ∀ j, j < xs.length → (xs.map f)[j]? = some (f (xs.getD j d)) := fun j h => by rw [List.getElem?_map, List.getElem?_eq_getElem h, List.getD_eq_getElem?_getD, List.getElem?_eq_getElem h]; rfl
  by_cases h : i < xs.length - 1
  · rw [zipD_at (e i (by omega)) (by rw [List.getElem?_drop, Nat.add_comm 1 i]; exact e (i + 1) (by omega)), List.getElem?_map, rngI_get h]
    dsimp only [Option.map]
    rw [show (0 + (i : Int)).toNat = i by omega]
  · cases z : (zipD (xs.map f) ((xs.map f).drop 1))[i]? with
    | none => rw [List.getElem?_eq_none (by rw [List.length_map, rngI_len]; omega)]
    | some d' =>
      obtain ⟨x, y, _, e2, _⟩ := zipD_get z
      have := (List.getElem?_eq_some_iff.mp e2).1
      rw [List.length_drop, List.length_map] at this
      omega
theorem cut_from1 (xs : List D) : cutD xs (some 1) none = xs.drop 1 := by
  unfold cutD
  rw [show HT.sIx xs.length 0 (some 1) = min 1 xs.length from HT.sIx_nat _ 0 1, HT.sIx_none]
  cases xs with
  | nil => rfl
  | cons x xs =>
    rw [List.length_cons, show min 1 (xs.length + 1) = 1 by omega]
    apply List.take_of_length_le
    rw [List.length_drop, List.length_cons]
    omega
end Mi

set_option Elab.async false
set_option linter.all false
set_option maxRecDepth 100000
namespace Mi
open PySem PySem.Spec PyProof.Rows L2
section
variable {K : PySem.W.Frag} {mg : Str → Option Value} {E : L2.St → XK} {te : TE} {tr : TA} {m : ME} {ms : List ME} {ρ : Env} {Q : D → Env → Prop} {QA : List D → Env → Prop}
/-! own.pop() -/
def mPop (j : Nat) : ME := fun ρ => match mu ρ j with
  | some (.list ds) => (match ds[ds.length - 1]? with
    | some y => .ok (y, putMu ρ j (.list ds.dropLast))
    | none => .stuck)
  | _ => .stuck
theorem RpA.last {F : Hp} : ∀ {vs : List V} {ds : List D}, RpA K F vs ds → RpA K F vs.dropLast ds.dropLast
  | _, _, .nil => .nil
  | _, _, .cons _ .nil => .nil
  | _, _, .cons h (.cons h2 r) => .cons h (RpA.last (.cons h2 r))
theorem sh_pop {j : Nat} : ShE K mg E (tBM0 K "list" rPop (tVar j)) (mPop j) := by
  intro Φ F σ H ρ Q W r x g
  unfold mPop at g
  split at g
  · rename_i ds e0
    split at g
    · rename_i y ey
      obtain ⟨a, ea, nF, ow0⟩ := r.mu e0
      refine ⟨_, ea, tyV_own ow0, ?_⟩
      obtain ⟨vs, h1, h2⟩ := ow0
      obtain ⟨u, eu, ru⟩ := h2.get' ey
      refine ⟨a, vs, u, rfl, rfl, h1, by rw [h2.length]; exact eu, ?_⟩
      exact g _ F _ (r.putMu e0 ea ⟨_, upd_same, h2.last⟩) (.refl _) ru
    · exact g.elim
  · exact g.elim
def POPL (z : D) (ρ : Env) (j : Nat) (N : D → Env → Prop) : Prop := ∃ (ds : List D) (y : D), z = .list (ds ++ [y]) ∧ SETS (putMu ρ j (.list ds)) (N y)
theorem popl_ {ds : List D} {y : D} {ρ : Env} {j : Nat} {N : D → Env → Prop} (q : SETS (putMu ρ j (.list ds)) (N y)) : POPL (.list (ds ++ [y])) ρ j N := ⟨ds, y, rfl, q⟩
theorem w_pop {j : Nat} (q : MU (mu ρ j) fun z => POPL z ρ j Q) : Sat (mPop j ρ) Q := by
  obtain ⟨_, e0, ds, y, rfl, q⟩ := q
  exact ⟨y, _, by unfold mPop; rw [e0]; show (match (ds ++ [y])[(ds ++ [y]).length - 1]? with | some y' => _ | none => _) = _; rw [show (ds ++ [y])[(ds ++ [y]).length - 1]? = some y by simp]; rw [show (ds ++ [y]).dropLast = ds by simp], q⟩
end
end Mi

set_option Elab.async false
set_option linter.all false
set_option maxRecDepth 100000
namespace Mi
open PySem PySem.Spec PyProof.Rows L2
theorem insU_nodup_len {x : Int} : ∀ {ys : List Int}, x ∉ ys → (insU x ys).length = ys.length + 1
  | [], _ => rfl
  | y :: ys, h => by
    unfold insU
    have a : x ≠ y := fun e => h (by rw [e]; exact List.mem_cons_self ..)
    have b : x ∉ ys := fun e => h (List.mem_cons_of_mem _ e)
    split
    · rfl
    · first | rw [if_neg a, List.length_cons, insU_nodup_len b, List.length_cons] | rw [List.length_cons, insU_nodup_len b, List.length_cons]
theorem ssI_nodup_len : ∀ {ns : List Int}, ns.Nodup → (ssI ns).length = ns.length
  | [], _ => rfl
  | n :: ns, h => by
    obtain ⟨a, b⟩ := List.nodup_cons.mp h
    show (insU n (ssI ns)).length = _
    rw [insU_nodup_len (fun e => a (mem_ssI.mp e)), ssI_nodup_len b, List.length_cons]
theorem setR_card {w : World} {h : Heap} {a : Addr} {ns : List Int} {c : Nat} (R : SetR w h a (fun j => decide (j ∈ ns)) c) : c = (ssI ns).length := by
  obtain ⟨o, es, ep, t, ho, hex, hd, g, nd, hm, hb, hf, hn, _⟩ := R
  have : ssI (es.toList.map keyOf) = ssI ns := asc_ext (ssI_pw _) (ssI_pw _) fun z => by
    rw [mem_ssI, mem_ssI, ← hm z]
    exact decide_eq_true_iff
  rw [← this, ssI_nodup_len nd, List.length_map, Array.length_toList]
  exact hn.symm
section
variable {K : PySem.W.Frag} {mg : Str → Option Value} {E : L2.St → XK} {te : TE} {m : ME} {ρ : Env} {Q : D → Env → Prop} {w : World}
def rSetJ (K : PySem.W.Frag) (w : World) : List V → Hp → VK → Prop := fun xs H Q => ∃ (l : Addr) (ns : List Int), xs = [V.ref l] ∧ SqL K H l (ns.map V.int) ∧ ns.length < 1000 ∧ ∀ (p : Addr) (c : Nat), H p = none → c = (ssI ns).length → Q (.ref p) (upd H p (SetO w p (fun j => decide (j ∈ ns)) c))
theorem cr_setJ {X : Cx} (hc : X.calm = true) : CallR X (.type "set") (rSetJ X.K X.w) := by
  intro pins s σ H vs us Q I r h
  obtain ⟨l, ns, rfl, hl, hn, q⟩ := h
  obtain ⟨its, rv, pl, hz⟩ := I.list hl
  rw [Vals.ref1 r]
  refine call_set_ints (ns := ns) (I.ok.hd hc) pl.isList (by simpa using rv.ints) (by unfold scanBound; omega) fun h' tk c hf => ?_
  obtain ⟨hR, hc, hk⟩ := hf
  exact ⟨.ref s.heap.objs.size, upd H s.heap.objs.size (SetO X.w s.heap.objs.size (fun j => decide (j ∈ ns)) c), I.laid (t' := tk) hk (Nat.le_refl _) (setO_new hR), rfl, q _ c (I.hok.fresh (Nat.le_refl _)) (setR_card hR)⟩
/-- sorted(set(xs)), any number of ints, fewer than 64 different ones -/
def mSJ (m : ME) : ME := fun ρ => (m ρ).bind fun p => match p.1 with
  | .list ds => match intsD ds with
    | some ns => if (ssI ns).length < 64 ∧ ns.length < 1000 then .ok (.list ((ssI ns).map .int), p.2) else .stuck
    | none => .stuck
  | _ => .stuck
theorem shf_sj (h : ShE K mg E te m) : ShF K mg E (tCB (rSortedSet w) (tCons (tCB (rSetJ K w) (tCons te tNil)) tNil)) (mSJ m) := by
  intro Φ F σ H ρ Q W r x g
  have g1 := Good.bind (r := m ρ) g
  refine h Φ F σ H ρ _ W r x (g1.mono (fun p gp v F1 H1 r1 s1 rv => ?_) fun _ _ _ w => w)
  obtain ⟨d, ρ'⟩ := p
  dsimp only at gp rv r1
  split at gp
  · rename_i ds
    cases e : intsD ds with
    | none => rw [e] at gp; exact gp.elim
    | some ns =>
      rw [e] at gp
      dsimp only at gp
      split at gp
      · rename_i hl
        cases rv with
        | lst h1 h2 =>
          refine ⟨_, ns, rfl, by rw [← h2.ints (intsD_eq e)]; exact SqL.of (r1.sub _ _ h1), by omega, fun p c hp hc => ?_⟩
          obtain ⟨r2, s2⟩ := r1.alloc (o := SetO w p (fun j => decide (j ∈ ns)) c) hp
          refine ⟨p, _, c, rfl, upd_same, by omega, fun ns' q hpw hmem hlen hq => ?_⟩
          have : ns' = ssI ns := asc_ext hpw (ssI_pw ns) fun z => by rw [hmem, mem_ssI]; exact decide_eq_true_iff
          subst this
          obtain ⟨r3, nF, n0, ap⟩ := r2.allocO (o := .lst ((ssI ns).map V.int)) hq
          exact gp q _ _ r3 (s1.trans s2) nF n0 ap ⟨_, upd_same, RpA.ofInts _⟩
      · exact gp.elim
  · exact gp.elim
def SJ (d : D) (N : D → Prop) : Prop := ∃ ns : List Int, d = .list (ns.map .int) ∧ ((ssI ns).length < 64 ∧ ns.length < 1000) ∧ N (.list ((ssI ns).map .int))
theorem sj_ {ns : List Int} {N : D → Prop} (h : (ssI ns).length < 64 ∧ ns.length < 1000) (q : N (.list ((ssI ns).map .int))) : SJ (.list (ns.map .int)) N := ⟨ns, rfl, h, q⟩
theorem w_sj (q : Sat (m ρ) fun d ρ1 => SJ d fun z => Q z ρ1) : Sat (mSJ m ρ) Q := by
  obtain ⟨d, ρ1, e1, ns, rfl, h, q⟩ := q
  exact ⟨_, ρ1, by unfold mSJ; rw [e1]; dsimp only [Res.bind]; rw [intsD_map]; dsimp only; rw [if_pos h], q⟩
end
end Mi

set_option Elab.async false
set_option linter.all false
set_option maxRecDepth 100000
/-! a def that calls itself; x in d; sorted(d) -/
namespace Rd
open PySem PySem.Spec PyProof.Rows L2
theorem neverX {P : Program} {w : World} {K : PySem.W.Frag} {mg : Str → Option Value} {base : Heap} {CX : CXT} {k : Nat} {f : Addr} {fd : FuncData} {ps : List Str} : FnOk P w K mg base CX k f fd ps (fun _ _ _ _ => False) := ⟨fun _ _ _ _ h => h.elim, fun _ _ _ _ _ _ _ _ _ _ _ _ _ h => h.elim⟩
end Rd
namespace Mi
open PySem PySem.Spec PyProof.Rows L2
section
variable {K : PySem.W.Frag} {mg : Str → Option Value}
theorem absurd_stP {n : Nat} {vs : List V} {H : Hp} {Q : VK} {E : XK} (h : spP K mg n (fun _ => .stuck) vs H Q E) : False := by
  obtain ⟨_, F, ds, _, _, g⟩ := h
  exact g
theorem absurd_stI {n : Nat} {vs : List V} {H : Hp} {Q : VK} {E : XK} (h : spI K n (fun _ _ => .stuck) vs H Q E) : False := by
  obtain ⟨_, F, a, d0, us, ds, _, _, _, _, _, g⟩ := h
  exact g
end
/-! x in d, of a dict that is fixed -/
def fDIn (neg : Bool) (x d : D) : Option D := if isDic d = true then match d with
  | .dict kds => (keyD x).map fun k => .bool ((valD kds k).isSome ^^ neg)
  | _ => none else none
section
variable {K : PySem.W.Frag} {mg : Str → Option Value} {E : L2.St → XK} {te ty td : TE} {m mk md : ME} {ρ : Env}
theorem fDIn_ok {neg : Bool} {F H : Hp} {x y : V} {dx dy d : D} (s : Same F H) (rx : Rp K F x dx) (ry : Rp K F y dy) (e : fDIn neg dx dy = some d) : ∃ a o, y = .ref a ∧ DGet H a x o ∧ d = .bool (o.isSome ^^ neg) := by
  unfold fDIn at e
  split at e
  · rename_i hi
    cases ry with
    | dic h1 h2 =>
      rename_i a kvs ds
      have e : ((keyD dx).map fun k => PyData.bool ((valD ds k).isSome ^^ neg)) = some d := e
      cases ek : keyD dx with
      | none => rw [ek] at e; cases e
      | some k =>
        rw [ek] at e
        cases e
        obtain ⟨rfl, _⟩ := keyD_ok rx ek
        refine ⟨a, valV kvs k, rfl, DGet.k (s _ _ h1), ?_⟩
        rcases valD_ok (k := k) h2 with ⟨g1, g2⟩ | ⟨v, d, g1, g2, g3⟩
        · rw [g1]; show PyData.bool ((valD ds k).isSome ^^ neg) = _; rw [g2]; rfl
        · rw [g1]; show PyData.bool ((valD ds k).isSome ^^ neg) = _; rw [g2]; rfl
    | scr h1 h2 => cases hi
    | _ => cases e
  · cases e
theorem s_din : OpSh K (fun y x H Q => ∃ a o, x = .ref a ∧ DGet H a y o ∧ Q (.bl o.isSome) H) (fDIn false) := OpS.sh fun F H x y dx dy d Q s rx ry e q => by
  obtain ⟨a, o, h1, h2, rfl⟩ := fDIn_ok s rx ry e
  exact ⟨a, o, h1, h2, q _ (by rw [Bool.xor_false]; exact .bl _)⟩
theorem s_dnotin : OpSh K (fun y x H Q => ∃ a o, x = .ref a ∧ DGet H a y o ∧ Q (.bl (!o.isSome)) H) (fDIn true) := OpS.sh fun F H x y dx dy d Q s rx ry e q => by
  obtain ⟨a, o, h1, h2, rfl⟩ := fDIn_ok s rx ry e
  exact ⟨a, o, h1, h2, q _ (by rw [Bool.xor_true]; exact .bl _)⟩
theorem sh_din (h1 : ShE K mg E ty mk) (h2 : ShE K mg E td md) : ShE K mg E (tDIn ty td) (mOp (fDIn false) mk md) :=
  (show ShE K mg E (tOp (fun y x H Q => ∃ a o, x = .ref a ∧ DGet H a y o ∧ Q (.bl o.isSome) H) ty td) _ from sh_op s_din h1 h2)
theorem sh_dnotin (h1 : ShE K mg E ty mk) (h2 : ShE K mg E td md) : ShE K mg E (tDNotIn ty td) (mOp (fDIn true) mk md) :=
  (show ShE K mg E (tOp (fun y x H Q => ∃ a o, x = .ref a ∧ DGet H a y o ∧ Q (.bl (!o.isSome)) H) ty td) _ from sh_op s_dnotin h1 h2)
end
theorem v_din {neg : Bool} {x : D} {kds : List (D × D)} {k : Key} {Q : D → Prop} (h : isDic (.dict kds) = true) (hk : keyD x = some k) (q : Q (.bool ((valD kds k).isSome ^^ neg))) : VAL (fDIn neg x (.dict kds)) Q := ⟨_, by
  unfold fDIn
  rw [if_pos h]
  show (keyD x).map _ = _
  rw [hk]
  rfl, q⟩
/-! texts in order -/
def insS (x : Str) : List Str → List Str
  | [] => [x]
  | y :: ys => if ltCps y.cps.toList x.cps.toList = true then y :: insS x ys else x :: y :: ys
def sortS : List Str → List Str
  | [] => []
  | x :: xs => insS x (sortS xs)
theorem insS_perm (x : Str) : ∀ ys : List Str, (insS x ys).Perm (x :: ys)
  | [] => .refl _
  | y :: ys => by
    unfold insS
    split
    · exact ((insS_perm x ys).cons y).trans (.swap ..)
    · exact .refl _
theorem sortS_perm : ∀ xs : List Str, (sortS xs).Perm xs
  | [] => .refl _
  | x :: xs => (insS_perm x _).trans ((sortS_perm xs).cons x)
def LeS (x y : Str) : Prop := ltCps y.cps.toList x.cps.toList = false
theorem LeS_iff {x y : Str} : LeS x y ↔ x.cps.toList ≤ y.cps.toList := by
  unfold LeS
  rw [ltCps_eq, decide_eq_false_iff_not]
  exact Iff.rfl
theorem LeS.trans {x y z : Str} (h : LeS x y) (g : LeS y z) : LeS x z := LeS_iff.mpr (List.le_trans (LeS_iff.mp h) (LeS_iff.mp g))
theorem LeS.anti {x y : Str} (h : LeS x y) (g : LeS y x) : x = y := by
  have := List.le_antisymm (LeS_iff.mp h) (LeS_iff.mp g)
  cases x; cases y
  simpa using this
theorem LeS.total {x y : Str} (h : ¬ LeS x y) : LeS y x := by
  have h2 : y.cps.toList < x.cps.toList := by
    unfold LeS at h
    rw [ltCps_eq, decide_eq_false_iff_not, Classical.not_not] at h
    exact h
  rw [LeS_iff]
  exact List.le_of_lt h2
theorem rising_pw : ∀ {xs : List Str} {p : Str}, risingS p xs = true → (∀ x ∈ xs, LeS p x) ∧ xs.Pairwise LeS
  | [], _, _ => ⟨fun _ h => (List.not_mem_nil h).elim, .nil⟩
  | x :: xs, p, h => by
    unfold risingS at h
    rw [Bool.and_eq_true, Bool.not_eq_true'] at h
    obtain ⟨a, b⟩ := rising_pw h.2
    refine ⟨fun y hy => ?_, .cons a b⟩
    rcases List.mem_cons.mp hy with rfl | hy
    · exact h.1
    · exact LeS.trans h.1 (a y hy)
theorem sortedS_pw {xs : List Str} (h : sortedS xs = true) : xs.Pairwise LeS := by
  cases xs with
  | nil => exact .nil
  | cons x xs => exact .cons (rising_pw h).1 (rising_pw h).2
theorem insS_pw (x : Str) : ∀ ys : List Str, ys.Pairwise LeS → (insS x ys).Pairwise LeS
  | [], _ => by unfold insS; exact .cons (fun _ h => (List.not_mem_nil h).elim) .nil
  | y :: ys, h => by
    obtain ⟨a, b⟩ := List.pairwise_cons.mp h
    unfold insS
    split
    · rename_i l
      refine .cons (fun z hz => ?_) (insS_pw x ys b)
      rcases List.mem_cons.mp ((insS_perm x ys).mem_iff.mp hz) with rfl | hz
      · exact LeS.total fun e => by unfold LeS at e; rw [l] at e; cases e
      · exact a z hz
    · rename_i l
      have l : LeS x y := by unfold LeS; simpa using l
      refine .cons (fun z hz => ?_) h
      rcases List.mem_cons.mp hz with rfl | hz
      · exact l
      · exact l.trans (a z hz)
theorem sortS_pw : ∀ xs : List Str, (sortS xs).Pairwise LeS
  | [] => .nil
  | x :: xs => insS_pw x _ (sortS_pw xs)
theorem sortedS_eq : ∀ {xs ys : List Str}, xs.Perm ys → xs.Pairwise LeS → ys.Pairwise LeS → xs = ys
  | [], ys, p, _, _ => p.nil_eq
  | x :: xs, [], p, _, _ => absurd p.length_eq (by simp)
  | x :: xs, y :: ys, p, h1, h2 => by
    obtain ⟨a1, a2⟩ := List.pairwise_cons.mp h1
    obtain ⟨b1, b2⟩ := List.pairwise_cons.mp h2
    have e1 : x ∈ y :: ys := p.mem_iff.mp (List.mem_cons_self ..)
    have e2 : y ∈ x :: xs := p.mem_iff.mpr (List.mem_cons_self ..)
    have e : x = y := by
      rcases List.mem_cons.mp e1 with z | z
      · exact z
      rcases List.mem_cons.mp e2 with w | w
      · exact w.symm
      exact LeS.anti (a1 _ w) (b1 _ z)
    subst e
    rw [sortedS_eq (p.cons_inv) a2 b2]
/-! sorted(d), the keys texts -/
def strsD : List D → Option (List Str)
  | [] => some []
  | .str x :: ds => (strsD ds).map (x :: ·)
  | _ :: _ => none
theorem strsD_eq : ∀ {ds : List D} {xs : List Str}, strsD ds = some xs → ds = xs.map .str
  | [], _, e => by cases e; rfl
  | d :: ds, xs, e => by
    cases d with
    | str x =>
      have e : (strsD ds).map (x :: ·) = some xs := e
      cases z : strsD ds with
      | none => rw [z] at e; cases e
      | some ys => rw [z] at e; cases e; rw [strsD_eq z]; rfl
    | _ => cases e
theorem strsD_map : ∀ xs : List Str, strsD (xs.map .str) = some xs
  | [] => rfl
  | x :: xs => by show (strsD (xs.map .str)).map (x :: ·) = _; rw [strsD_map xs]; rfl
def cbSortedD : List D → Option D
  | [.dict kds] => (strsD (kds.map (·.1))).bind fun xs => if xs.length < 64 then some (.list ((sortS xs).map .str)) else none
  | _ => none
section
variable {K : PySem.W.Frag}
theorem rpk_keys {F : Hp} : ∀ {kvs : List (Key × V)} {kds : List (D × D)} {xs : List Str}, RpK K F kvs kds → kds.map (·.1) = xs.map .str → kvs.map (·.1) = xs.map Sum.inr
  | _, _, [], .nil, _ => rfl
  | _, _, [], .cons _ _, e => by cases e
  | _, _, _ :: _, .nil, e => by cases e
  | _, _, x :: xs, .cons (k := k) h r, e => by
    have e1 : kD k = .str x := (List.cons.inj e).1
    have e2 := (List.cons.inj e).2
    rw [List.map_cons, List.map_cons, rpk_keys r e2]
    cases k with
    | inl i => cases e1
    | inr y => cases e1; rfl
theorem rpa_strs {F : Hp} : ∀ xs : List Str, RpA K F (xs.map V.str) (xs.map .str)
  | [] => .nil
  | x :: xs => .cons (.str x) (rpa_strs xs)
abbrev rSortD : List V → Hp → VK → Prop := fun xs H Q => ∃ (a : Addr) (kvs : List (Key × V)) (ks : List Str), xs = [.ref a] ∧ Rd H a (.dK kvs) ∧ kvs.map (·.1) = ks.map Sum.inr ∧ ks.length < 64 ∧ ∀ ys p, ys.Perm ks → sortedS ys = true → H p = none → Q (.ref p) (upd H p (.lst (ys.map V.str)))
theorem cf_sortedD : CbF K rSortD cbSortedD := fun F H xs ds d Q s rx e q => by
  unfold cbSortedD at e
  split at e
  · rename_i kds
    obtain ⟨v, rfl, hv⟩ := one_rp rx
    cases z : strsD (kds.map (·.1)) with
    | none => rw [z] at e; cases e
    | some ns =>
      rw [z] at e
      have e : (if ns.length < 64 then some (PyData.list ((sortS ns).map .str)) else none) = some d := e
      split at e
      · rename_i hl
        cases e
        cases hv with
        | dic h1 h2 =>
          refine ⟨_, _, ns, rfl, .inl (s _ _ h1), rpk_keys h2 (strsD_eq z), hl, fun ns' p pm pw np => ?_⟩
          have : ns' = sortS ns := sortedS_eq (pm.trans (sortS_perm ns).symm) (sortedS_pw pw) (sortS_pw ns)
          subst this
          exact q p _ _ np rfl (rpa_strs _)
        | scr h1 h2 => cases z
      · cases e
  · cases e
end
theorem v_sortedD {kds : List (D × D)} {xs : List Str} {Q : D → Prop} (h : kds.map (·.1) = xs.map .str) (hl : xs.length < 64) (q : Q (.list ((sortS xs).map .str))) : VAL (cbSortedD [.dict kds]) Q := ⟨_, by
  show (strsD (kds.map (·.1))).bind _ = _
  rw [h, strsD_map]
  show (if xs.length < 64 then _ else _) = _
  rw [if_pos hl], q⟩
theorem satX_P {r : Res D} {Q : D → Prop} {X : Str → D → Prop} (h : SatP r Q) : SatX r Q X := by
  obtain ⟨d, e, q⟩ := h
  exact satX_ok e q
end Mi

set_option Elab.async false
set_option linter.all false
set_option maxRecDepth 100000
/-! sorted of any data that can be compared -/
namespace Mi
open PySem PySem.Spec PyProof.Rows L2
abbrev leX : D → D → Bool := PySem.W.dataLe false id
def OkX (ds : List D) : Prop := nodicA ds = true ∧ PySem.W.AllAlike ds ∧ PySem.W.Sortable ds ∧ ds.length ≤ 100000 ∧ ∀ d ∈ ds, d.depth ≤ 20
def rSortX (K : PySem.W.Frag) : List V → Hp → VK → Prop := fun vs H Q => ∃ (a : Addr) (xs : List V) (ds : List D), vs = [V.ref a] ∧ SqL K H a xs ∧ DpAll K H xs ds ∧ OkX ds ∧
  ∀ (p : Addr), H p = none → Q (.ref p) (upd H p (.lst (((xs.zip ds).mergeSort fun a b => leX a.2 b.2).map (·.1))))
theorem each_zip {X : Cx} {pins : List (Addr × Obj)} {σ : L2.St} {H : Hp} {s : Shared} (I : Inv X pins σ H s) : ∀ {xs : List V} {us : List Value} {ds : List D}, Vals xs us → DpAll X.K H xs ds → PySem.W.EachIs (fun v (b : V × D) => RelV b.1 v) us (xs.zip ds) ∧ PySem.W.EachIs (fun v (b : V × D) => ∃ as, Reads s.heap v b.2 as) us (xs.zip ds)
  | _, _, _, .nil, .nil => ⟨.nil, .nil⟩
  | _, _, _, .cons r rv, .cons h hs => by
    obtain ⟨a, b⟩ := each_zip I rv hs
    exact ⟨.cons r a, .cons (Dp.reads I _ _ _ h r) b⟩
theorem dpall_len {K : PySem.W.Frag} {H : Hp} : ∀ {xs : List V} {ds : List D}, DpAll K H xs ds → xs.length = ds.length
  | _, _, .nil => rfl
  | _, _, .cons _ r => by rw [List.length_cons, List.length_cons, dpall_len r]
theorem vals_each : ∀ {us : List Value} {bs : List (V × D)}, PySem.W.EachIs (fun v b => RelV b.1 v) us bs → Vals (bs.map (·.1)) us
  | _, _, .nil => .nil
  | _, _, .cons h t => .cons h (vals_each t)
theorem cr_sortedX {X : Cx} (hu : X.A.units + 64 < cLine) : CallR X (.builtin "sorted") (rSortX X.K) := by
  intro pins s σ H vs us Q I r h
  obtain ⟨a, xs, ds, rfl, hs, hd, ⟨h1, h2, h3, h4, h5⟩, q⟩ := h
  obtain ⟨its, rv, hl, hz⟩ := I.list hs
  rw [Vals.ref1 r]
  obtain ⟨e1, e2⟩ := each_zip I rv hd
  have hlen := dpall_len hd
  have ez : (xs.zip ds).map (·.2) = ds := by rw [← List.unzip_snd, List.unzip_zip hlen]
  refine PySem.W.sorted_data (enc := fun b : V × D => b.2) hl.isList e1 e2 (by rw [ez]; exact h2) (by rw [ez]; exact h3) ?_ (fun b hb => ?_) fun out ho eo => ?_
  · rw [List.length_zip, hlen, Nat.min_self]
    rw [sizeLine_eq]
    omega
  · have := h5 b.2 (by rw [← ez]; exact List.mem_map.mpr ⟨b, hb, rfl⟩)
    show X.A.units + 2 + b.2.depth < cLine
    omega
  · obtain ⟨ep, he'⟩ := PyProof.Rows.sortedAll_at s.heap its out.toArray
    have rv' := vals_each eo
    refine ⟨.ref _, upd H (s.heap.objs.size + 1) (.lst _), I.laid (t' := s.toks) (fun _ _ => PyProof.Rows.sortedAll_old) (Nat.le_succ _) ⟨?_, out, ep, rv', he'⟩, rfl, q _ (I.hok.fresh (Nat.le_succ _))⟩
    rw [List.length_map, List.length_mergeSort, List.length_zip, hlen, Nat.min_self, sizeLine_eq]
    omega
open Classical in
noncomputable def cbSortX : List D → Option D
  | [.list ds] => if OkX ds then some (.list (ds.mergeSort leX)) else none
  | _ => none
theorem rpa_perm {K : PySem.W.Frag} {F : Hp} : ∀ {bs : List (V × D)}, (∀ b ∈ bs, Rp K F b.1 b.2) → RpA K F (bs.map (·.1)) (bs.map (·.2))
  | [], _ => .nil
  | b :: bs, h => .cons (h b (List.mem_cons_self ..)) (rpa_perm fun c hc => h c (List.mem_cons_of_mem _ hc))
theorem rpa_zip {K : PySem.W.Frag} {F : Hp} : ∀ {xs : List V} {ds : List D}, RpA K F xs ds → ∀ b ∈ xs.zip ds, Rp K F b.1 b.2
  | _, _, .nil, _, hb => by cases hb
  | _, _, .cons h r, b, hb => by
    rw [List.zip_cons_cons] at hb
    rcases List.mem_cons.mp hb with rfl | hb
    · exact h
    · exact rpa_zip r b hb
theorem cf_sortedX {K : PySem.W.Frag} : CbF K (rSortX K) cbSortX := fun F H xs ds d Q s rx e q => by
  unfold cbSortX at e
  split at e
  · rename_i es
    obtain ⟨v, rfl, hv⟩ := one_rp rx
    split at e
    · rename_i ok
      cases e
      cases hv with
      | lst h1 h2 =>
        rename_i a vs
        refine ⟨a, vs, es, rfl, SqL.of (s _ _ h1), (h2.mono s).dp ok.1, ok, fun p np => q p _ _ np rfl ?_⟩
        have e1 : ((vs.zip es).mergeSort fun a b => leX a.2 b.2).map (·.2) = es.mergeSort leX := by
          rw [List.map_mergeSort (s := leX) (fun _ _ _ _ => rfl)]
          rw [← List.unzip_snd, List.unzip_zip h2.length]
        rw [← e1]
        exact rpa_perm fun b hb => rpa_zip h2 b ((List.mergeSort_perm _ _).mem_iff.mp hb)
    · cases e
  · cases e
theorem v_sortX {ds : List D} {Q : D → Prop} (h : OkX ds) (q : Q (.list (ds.mergeSort leX))) : VAL (cbSortX [.list ds]) Q := ⟨_, by unfold cbSortX; exact if_pos h, q⟩
/-! what the order says -/
theorem leX_total : PySem.W.TotalLe leX := PySem.W.sortLe_total _ _ _
theorem sortX_pw (ds : List D) : (ds.mergeSort leX).Pairwise fun a b => leX a b = true := List.pairwise_mergeSort (fun a b c h g => leX_total.trans a b c h g) (fun a b => by rcases leX_total.total a b with h | h <;> simp [h]) ds
theorem sortX_perm (ds : List D) : (ds.mergeSort leX).Perm ds := List.mergeSort_perm _ _
theorem leX_int {t u : Int} {r r' : List D} (h : leX (.tuple (.int t :: r)) (.tuple (.int u :: r')) = true) : t ≤ u := by
  have h : (!PySem.W.dataLt (.tuple (.int u :: r')) (.tuple (.int t :: r))) = true := h
  rcases Int.lt_or_le u t with l | l
  · rw [PySem.W.dataLt_tuple, PySem.W.dataLt_cons (by simp [PySem.W.alike])] at h
    have e : PyData.eqv (.int u) (.int t) = false := by
      simp [PyData.eqv]
      omega
    rw [e] at h
    have h : (!PySem.W.dataLt (.int u) (.int t)) = true := h
    rw [PySem.W.dataLt_int, decide_eq_true l] at h
    cases h
  · exact l
/-! [.., *xs, ..] -/
section
variable {K : PySem.W.Frag} {mg : Str → Option Value} {E : L2.St → XK} {tr : TA} {as : List AI} {ρ : Env} {Q : D → Env → Prop}
def mLstS (as : List AI) : ME := fun ρ => (mAS as ρ).bind fun p => if p.1.length ≤ 16777216 then .ok (.list p.1, p.2) else .stuck
theorem shf_lstS (h : ShAS K mg E tr as) : ShF K mg E (tLst tr) (mLstS as) := by
  intro Φ F σ H ρ Q W r x g
  refine h Φ F σ H ρ _ W r x ((Good.bind (r := mAS as ρ) g).mono (fun p gp vs F1 H1 r1 s1 rv => ?_) fun _ _ _ w => w)
  split at gp
  · refine ⟨by rw [rv.length, sizeLine_eq]; assumption, fun a na => ?_⟩
    obtain ⟨r2, nF, n0, ap⟩ := r1.allocO (o := .lst vs) na
    exact gp a _ _ r2 s1 nF n0 ap ⟨vs, upd_same, rv⟩
  · exact gp.elim
theorem w_lstS (q : SatA (mAS as ρ) fun ds ρ1 => LEQ ds (Q (.list ds) ρ1)) : Sat (mLstS as ρ) Q := by
  obtain ⟨ds, ρ1, e1, h, q⟩ := q
  exact ⟨_, ρ1, by unfold mLstS; rw [e1]; show (if ds.length ≤ 16777216 then _ else _) = _; rw [if_pos h], q⟩
end
end Mi

set_option Elab.async false
set_option linter.all false
set_option maxRecDepth 100000
/-! defs whose last row is `return x`, x an object of their own -/
namespace Mi
open PySem PySem.Spec PyProof.Rows L2
section
variable {K : PySem.W.Frag} {mg : Str → Option Value} {E : L2.St → XK} {tr : TA} {ms : List ME} {s1 s2 : TS} {m1 m2 : MS}
def spIF (K : PySem.W.Frag) (n : Nat) (f : MFi) : Sp := fun vs H Q _ => vs.length = n + 1 ∧ ∃ F a d0 us ds, vs = .ref a :: us ∧ Same F H ∧ F a = none ∧ OwnR K F H a d0 ∧ RpA K F us ds ∧
  Good (f d0 ds) (fun p => ∀ c F' H', Same F F' → Same F' H' → (∀ b, F b = none → H b ≠ none → F' b = none) → (∀ b o, H b = some o → b ≠ a → H' b = some o) → OwnR K F' H' a p.2 → F' c = none → H c = none → OwnR K F' H' c p.1 → Q (.ref c) H') (fun _ _ _ => False)
theorem absurd_stIF {n : Nat} {vs : List V} {H : Hp} {Q : VK} {E : XK} (h : spIF K n (fun _ _ => .stuck) vs H Q E) : False := by
  obtain ⟨_, F, a, d0, us, ds, _, _, _, _, _, g⟩ := h
  exact g
theorem putMu_own {ρ : Env} {i j : Nat} {d e : D} (h : (putMu ρ i d)[j]? = some (.own e)) : ∃ e', ρ[j]? = some (.own e') := by
  unfold putMu at h
  split at h
  · rename_i d0 q
    rcases getset h with ⟨rfl, _, _⟩ | ⟨_, h⟩
    · exact ⟨_, q⟩
    · exact ⟨_, h⟩
  · rcases getset h with ⟨_, z, _⟩ | ⟨_, h⟩
    · cases z
    · exact ⟨_, h⟩
  · exact ⟨_, h⟩
theorem shf_callI {f : MFi} {n j : Nat} (h : ShA K mg E tr ms) (hl : ms.length = n) : ShF K mg E (tCall (spIF K n f) [] E0 (tCons (tVar j) tr)) (mCallI f j ms) := by
  intro Φ F σ H ρ Q W r x g
  unfold mCallI at g
  cases e : mu ρ j with
  | none => rw [e] at g; exact g.elim
  | some d00 =>
    rw [e] at g
    obtain ⟨a, ea, _, _⟩ := r.mu e
    refine ⟨_, ea, h Φ F σ H ρ _ W r x ((Good.bind (r := mA ms ρ) g).mono (fun p gp vs F1 H1 r1 s1 rv el => ?_) fun _ _ _ w => w)⟩
    show spIF K n f ((V.ref a :: vs) ++ []) H1 Q E0
    rw [List.append_nil]
    cases e1 : mu p.2 j with
    | none => simp only [e1] at gp; exact gp.elim
    | some d0 =>
      simp only [e1] at gp
      obtain ⟨a', ea', nF, ow⟩ := r1.mu e1
      rw [ea] at ea'
      cases ea'
      refine ⟨by rw [List.length_cons, el, hl], F1, a, d0, vs, p.1, rfl, r1.sub, nF, ow, rv, (Good.nx (W' := fun _ _ _ => False) (Good.bind (r := (f d0 p.1).nx) gp)).mono (fun q gq c F' H' sF sH nw kp ow' nc hc oc => ?_) fun _ _ _ w => w.elim⟩
      refine gq c F' H' (r1.growMu sF sH nw kp e1 ea ow') (s1.trans sF) nc (r1.dom c hc) (fun i d hi z => ?_) oc
      obtain ⟨e', hi⟩ := putMu_own hi
      obtain ⟨b, w1, w2, w3, w4⟩ := r1.sl i _ hi
      rw [z] at w1
      cases w1
      obtain ⟨o, eo⟩ := w4.ex
      rw [hc] at eo
      cases eo
/-- the rows ahead of `return x` -/
def ShRo (K : PySem.W.Frag) (mg : Str → Option Value) (E : L2.St → XK) (j : Nat) (t : TS) (m : MS) : Prop := ∀ (Φ : Fm) (F : Hp) (σ : L2.St) (H : Hp) (ρ : Env) (De : Ends) (W : WXm), R K Φ F σ H ρ → XW K mg Φ E W →
  (match m ρ with
    | .nx ρ' => ∀ σ' F' H', R K Φ F' σ' H' ρ' → Same F F' → tRet (tVar j) De σ' H'
    | _ => False) → t De σ H
theorem sho_last {j : Nat} : ShRo K mg E j (tRet (tVar j)) mNext := fun Φ F σ H ρ De W r x g => g σ F H r (Same.refl _)
theorem sho_seq {j : Nat} (h1 : ShS K mg E s1 m1) (h2 : ShRo K mg E j s2 m2) : ShRo K mg E j (tSeq s1 s2) (mSeq m1 m2) := by
  intro Φ F σ H ρ De W r x g
  refine h1 Φ F σ H ρ { De with nx := s2 De } W r x ?_
  unfold mSeq at g
  cases e : m1 ρ with
  | nx ρ' =>
    rw [e] at g
    refine fun σ' F' H' r' s => h2 Φ F' σ' H' ρ' De W r' x ?_
    dsimp only at g
    cases e2 : m2 ρ' with
    | nx ρ2 => rw [e2] at g; exact fun σ2 F2 H2 r2 s2 => g σ2 F2 H2 r2 (s.trans s2)
    | _ => rw [e2] at g; exact g
  | _ => rw [e] at g; exact g.elim
def ownAt (ρ : Env) (j : Nat) : Option D := match ρ[j]? with
  | some (.own d) => some d
  | _ => none
def runIO (N j : Nat) (m : MS) : MFi := fun d0 ds => match m (envI N d0 ds) with
  | .nx ρ => match ownAt ρ j with
    | some d => .ok (d, ioOf ρ)
    | none => .stuck
  | _ => .stuck
def runPO (N j : Nat) (m : MS) : MF := fun ds => match m (envP N ds) with
  | .nx ρ => match ownAt ρ j with
    | some d => .ok d
    | none => .stuck
  | _ => .stuck
theorem ownAt_ok {Φ : Fm} {F H : Hp} {σ : L2.St} {ρ : Env} {j : Nat} {d : D} (r : R K Φ F σ H ρ) (e : ownAt ρ j = some d) : ∃ a, σ[j]? = some (some (.ref a)) ∧ F a = none ∧ Φ.H0 a = none ∧ OwnR K F H a d := by
  unfold ownAt at e
  split at e
  · rename_i d' q
    cases e
    exact r.sl j _ q
  · cases e
theorem body_IO {N : List Str} {n j : Nat} {f : MS} {vs : List V} {H : Hp} {Q : VK} {Ex : XK} (hs : ShRo K mg (fun _ => Ex) j s1 f) (h : spIF K n (runIO N.length j f) vs H Q Ex) (hn : n + 1 ≤ N.length) : s1 { nx := fun _ H' => Q .non H', rt := Q } (L2.start N vs) H := by
  obtain ⟨hl, F, a, d0, us, ds, rfl, sub, nF, ow, rv, g⟩ := h
  rw [List.length_cons] at hl
  have r := R.startI (N := N) sub nF ow rv (by omega)
  have fin : ∀ {σ' : L2.St} {F' H' : Hp} {ρ : Env}, R K ⟨H, some a, F⟩ F' σ' H' ρ → (∀ b o, H b = some o → b ≠ a → H' b = some o) ∧ OwnR K F' H' a (ioOf ρ) := fun {σ' F' H' ρ} r' => by
    obtain ⟨_, _, d, q1, _, q3⟩ := r'.io1 a rfl
    refine ⟨fun b o e z => r'.kept b o e (by rintro ⟨⟩; exact z rfl), ?_⟩
    unfold ioOf
    rw [q1]
    exact q3
  refine hs ⟨H, some a, F⟩ F _ H _ _ (fun _ _ _ _ => False) r xw_false ?_
  unfold runIO at g
  cases e : f (envI N.length d0 ds) with
  | nx ρ =>
    rw [e] at g
    dsimp only at g
    cases eo : ownAt ρ j with
    | none => rw [eo] at g; exact g.elim
    | some d =>
      rw [eo] at g
      intro σ' F' H' r' s'
      obtain ⟨c, e1, e2, e3, e4⟩ := ownAt_ok r' eo
      exact ⟨_, e1, g c F' H' s' r'.sub r'.new (fin r').1 (fin r').2 e2 e3 e4⟩
  | _ => rw [e] at g; exact g.elim
theorem body_PO {N : List Str} {n j : Nat} {f : MS} {vs : List V} {H : Hp} {Q : VK} {Ex : XK} (hs : ShRo K mg (fun _ => Ex) j s1 f) (h : spF K n (runPO N.length j f) vs H Q Ex) (hn : n ≤ N.length) : s1 { nx := fun _ H' => Q .non H', rt := Q } (L2.start N vs) H := by
  obtain ⟨hl, F, ds, sub, rv, g⟩ := h
  have r := R.startP (N := N) sub rv (by omega)
  refine hs ⟨H, none, F⟩ F _ H _ _ (fun _ _ _ _ => False) r xw_false ?_
  unfold runPO at g
  cases e : f (envP N.length ds) with
  | nx ρ =>
    rw [e] at g
    dsimp only at g
    cases eo : ownAt ρ j with
    | none => rw [eo] at g; exact g.elim
    | some d =>
      rw [eo] at g
      intro σ' F' H' r' s'
      obtain ⟨c, e1, e2, e3, e4⟩ := ownAt_ok r' eo
      exact ⟨_, e1, g c F' H' s' r'.sub r'.new (fun b o e => r'.kept b o e (by intro z; cases z)) e2 e3 e4⟩
  | _ => rw [e] at g; exact g.elim
variable {X : Cx} {body : List Stmt} {N : List Str} {n j : Nat} {f : MS} {vs : List V} {H : Hp} {Q : VK} {Ex : XK}
theorem fin_IO (pe : PSs X body s1) (hs : ShRo K mg (fun _ => Ex) j s1 f) (h : spIF K n (runIO N.length j f) vs H Q Ex) (hn : n + 1 ≤ N.length) : ∃ t, PSs X body t ∧ t { nx := fun _ H' => Q .non H', rt := Q } (L2.start N vs) H := ⟨s1, pe, body_IO hs h hn⟩
theorem fin_PO (pe : PSs X body s1) (hs : ShRo K mg (fun _ => Ex) j s1 f) (h : spF K n (runPO N.length j f) vs H Q Ex) (hn : n ≤ N.length) : ∃ t, PSs X body t ∧ t { nx := fun _ H' => Q .non H', rt := Q } (L2.start N vs) H := ⟨s1, pe, body_PO hs h hn⟩
end
def OWN (ρ : Env) (j : Nat) (N : D → Prop) : Prop := ∃ d, ownAt ρ j = some d ∧ N d
theorem run_IO {n j : Nat} {f : MS} {d0 : D} {ds : List D} {Q : D → D → Prop} (q : SatS (f (envI n d0 ds)) (fun ρ => OWN ρ j fun d => IO ρ (Q d)) (fun _ _ => False) (fun _ => False) (fun _ => False) (fun _ _ _ => False)) : SatI (runIO n j f d0 ds) Q := by
  unfold SatI runIO
  cases e : f (envI n d0 ds) with
  | nx ρ =>
    rw [e] at q
    obtain ⟨d, e1, q⟩ := q
    dsimp only
    rw [e1]
    obtain ⟨z, e2, q⟩ := q
    exact ⟨d, z, by unfold ioOf; rw [e2], q⟩
  | _ => rw [e] at q; exact q.elim
theorem run_PO {n j : Nat} {f : MS} {ds : List D} {Q : D → Prop} (q : SatS (f (envP n ds)) (fun ρ => OWN ρ j Q) (fun _ _ => False) (fun _ => False) (fun _ => False) (fun _ _ _ => False)) : SatP (runPO n j f ds) Q := by
  unfold SatP runPO
  cases e : f (envP n ds) with
  | nx ρ =>
    rw [e] at q
    obtain ⟨d, e1, q⟩ := q
    dsimp only
    rw [e1]
    exact ⟨d, rfl, q⟩
  | _ => rw [e] at q; exact q.elim
/-! x, y = a list -/
def gLl (n : Nat) (gs : MGs) : MG := fun d ρ => match d with
  | .list ds => if ds.length = n then gs ds ρ else none
  | _ => none
theorem shg_lst {K : PySem.W.Frag} {n : Nat} {gs : TGs} {tgs : MGs} {ts : List Nat} (hs : ShGs K gs tgs ts) : ShG K (gLst K n gs) (gLl n tgs) ts := by
  intro Φ F σ H ρ ρ' v d N r rv e q
  cases rv <;> try (cases e; done)
  rename_i a xs ds h1 h2
  have e : (if ds.length = n then tgs ds ρ else none) = some ρ' := e
  split at e
  · exact ⟨a, xs, rfl, SqL.of (r.sub _ _ h1), by rw [h2.length]; assumption, hs Φ F σ H ρ ρ' _ ds N r h2 e q⟩
  · cases e
theorem tg_l {n : Nat} {gs : MGs} {ds : List D} {ρ : Env} {N : Env → Prop} (h : ds.length = n) (q : TGS (gs ds ρ) N) : TG (gLl n gs (.list ds) ρ) N := by
  obtain ⟨ρ', e, q⟩ := q
  exact ⟨ρ', by show (if ds.length = n then _ else _) = _; rw [if_pos h, e], q⟩
theorem v_addS {a b : Str} {Q : D → Prop} (h : a.length + b.length ≤ 16777216) (q : Q (.str (a ++ b))) : VAL (fAddS (.str a) (.str b)) Q := ⟨_, if_pos h, q⟩
theorem v_str {i : Int} {Q : D → Prop} (h : i.natAbs.log2 < 1920) (q : Q (.str (toString i))) : VAL (cbStr [.int i]) Q := ⟨_, if_pos h, q⟩
end Mi

set_option Elab.async false
set_option linter.all false
set_option maxRecDepth 100000
namespace K11
open PySem PySem.Spec PyProof.Rows L2 Mi
def topS (i : Nat) : Stmt := PySem.Challenge.pw_truealmanac_k11_fine_moments.main.body.getD i (.Pass ⟨0, 0, 0, 0⟩)
abbrev s_reach : Stmt := topS 2
abbrev s_angle_reach : Stmt := topS 3
abbrev s__rounded_up : Stmt := topS 4
abbrev s__most_and_reach : Stmt := topS 5
abbrev s__uncapped : Stmt := topS 6
abbrev s__wave_reach : Stmt := topS 7
abbrev s_Ladder__init : Stmt := inClass (topS 9) 0
abbrev s_Ladder__longest : Stmt := inClass (topS 9) 1
abbrev s_Ladder___climb : Stmt := inClass (topS 9) 2
abbrev s_Ladder___highest : Stmt := inClass (topS 9) 3
abbrev s_Ladder___guess : Stmt := inClass (topS 9) 4
abbrev s_Ladder___add : Stmt := inClass (topS 9) 5
abbrev s_arch : Stmt := topS 16
abbrev s_wave : Stmt := topS 17
abbrev s_Plan__init : Stmt := inClass (topS 19) 0
abbrev s_Plan__value : Stmt := inClass (topS 19) 1
abbrev s_Plan___add_quantity : Stmt := inClass (topS 19) 2
abbrev s_Plan___add_angle : Stmt := inClass (topS 19) 3
abbrev s_Plan___index_of : Stmt := inClass (topS 19) 4
abbrev s_changes : Stmt := topS 21
abbrev s__scan : Stmt := topS 22
abbrev s_finer : Stmt := topS 24
abbrev s_fine_moments : Stmt := topS 25
abbrev s__finer_angle : Stmt := topS 26
abbrev s__law_start : Stmt := topS 28
abbrev s__law_draw : Stmt := topS 29
abbrev s__law_pick : Stmt := topS 30
abbrev s__law_number : Stmt := topS 33
abbrev s__law_divisor : Stmt := topS 34
abbrev s__law_angle : Stmt := topS 35
abbrev s__law_quantity : Stmt := topS 36
abbrev s__law_wave_part : Stmt := topS 37
abbrev s__law_series : Stmt := topS 38
abbrev s__law_arch : Stmt := topS 39
abbrev s__law_wave : Stmt := topS 40
abbrev s__law_angle_at : Stmt := topS 41
abbrev s__law_value : Stmt := topS 42
abbrev s__law_changes : Stmt := topS 43
abbrev s__law_finer : Stmt := topS 44
abbrev s_law : Stmt := topS 45
theorem sc_reach : FnScope ["q", "k"] ["q", "k"] (defScope s_reach) := ⟨rfl, rfl, rfl, by decide +kernel, rfl, by decide +kernel, by decide +kernel⟩
theorem sc_angle_reach : FnScope ["a", "k"] ["a", "k"] (defScope s_angle_reach) := ⟨rfl, rfl, rfl, by decide +kernel, rfl, by decide +kernel, by decide +kernel⟩
theorem sc__rounded_up : FnScope ["n", "d"] ["n", "d"] (defScope s__rounded_up) := ⟨rfl, rfl, rfl, by decide +kernel, rfl, by decide +kernel, by decide +kernel⟩
theorem sc__most_and_reach : FnScope ["q", "k", "top", "far"] ["q", "k"] (defScope s__most_and_reach) := ⟨rfl, rfl, rfl, by decide +kernel, rfl, by decide +kernel, by decide +kernel⟩
theorem sc__uncapped : FnScope ["q", "k", "word", "parts", "top", "far", "size", "other_top", "other_far", "v", "part"] ["q", "k"] (defScope s__uncapped) := ⟨rfl, rfl, rfl, by decide +kernel, rfl, by decide +kernel, by decide +kernel⟩
theorem sc__wave_reach : FnScope ["far"] ["far"] (defScope s__wave_reach) := ⟨rfl, rfl, rfl, by decide +kernel, rfl, by decide +kernel, by decide +kernel⟩
theorem sc_Ladder__init : FnScope ["self", "q"] ["self", "q"] (defScope s_Ladder__init) := ⟨rfl, rfl, rfl, by decide +kernel, rfl, by decide +kernel, by decide +kernel⟩
theorem sc_Ladder__longest : FnScope ["self", "limit", "room", "at", "halve", "guess"] ["self", "limit", "room"] (defScope s_Ladder__longest) := ⟨rfl, rfl, rfl, by decide +kernel, rfl, by decide +kernel, by decide +kernel⟩
theorem sc_Ladder___climb : FnScope ["self", "limit", "room"] ["self", "limit", "room"] (defScope s_Ladder___climb) := ⟨rfl, rfl, rfl, by decide +kernel, rfl, by decide +kernel, by decide +kernel⟩
theorem sc_Ladder___highest : FnScope ["self", "limit", "low", "high", "middle"] ["self", "limit"] (defScope s_Ladder___highest) := ⟨rfl, rfl, rfl, by decide +kernel, rfl, by decide +kernel, by decide +kernel⟩
theorem sc_Ladder___guess : FnScope ["self", "at", "limit", "space", "rise"] ["self", "at", "limit"] (defScope s_Ladder___guess) := ⟨rfl, rfl, rfl, by decide +kernel, rfl, by decide +kernel, by decide +kernel⟩
theorem sc_Ladder___add : FnScope ["self", "at", "k", "far"] ["self", "at", "k"] (defScope s_Ladder___add) := ⟨rfl, rfl, rfl, by decide +kernel, rfl, by decide +kernel, by decide +kernel⟩
theorem sc_arch : FnScope ["u"] ["u"] (defScope s_arch) := ⟨rfl, rfl, rfl, by decide +kernel, rfl, by decide +kernel, by decide +kernel⟩
theorem sc_wave : FnScope ["x", "r"] ["x"] (defScope s_wave) := ⟨rfl, rfl, rfl, by decide +kernel, rfl, by decide +kernel, by decide +kernel⟩
theorem sc_Plan__init : FnScope ["self", "q"] ["self", "q"] (defScope s_Plan__init) := ⟨rfl, rfl, rfl, by decide +kernel, rfl, by decide +kernel, by decide +kernel⟩
theorem sc_Plan__value : FnScope ["self", "t", "out", "word", "a", "b", "d", "e", "at"] ["self", "t"] (defScope s_Plan__value) := ⟨rfl, rfl, rfl, by decide +kernel, rfl, by decide +kernel, by decide +kernel⟩
theorem sc_Plan___add_quantity : FnScope ["self", "q", "later", "word", "first", "v"] ["self", "q", "later"] (defScope s_Plan___add_quantity) := ⟨rfl, rfl, rfl, by decide +kernel, rfl, by decide +kernel, by decide +kernel⟩
theorem sc_Plan___add_angle : FnScope ["self", "a", "later", "word", "first"] ["self", "a", "later"] (defScope s_Plan___add_angle) := ⟨rfl, rfl, rfl, by decide +kernel, rfl, by decide +kernel, by decide +kernel⟩
theorem sc_Plan___index_of : FnScope ["self", "row"] ["self", "row"] (defScope s_Plan___index_of) := ⟨rfl, rfl, rfl, by decide +kernel, rfl, by decide +kernel, by decide +kernel⟩
theorem sc_changes : FnScope ["q", "start", "end", "found", "rows", "before", "row"] ["q", "start", "end"] (defScope s_changes) := ⟨rfl, rfl, rfl, by decide +kernel, rfl, by decide +kernel, by decide +kernel⟩
theorem sc__scan : FnScope ["q", "start", "end", "plan", "ladder", "rows", "t", "w", "limit", "k"] ["q", "start", "end"] (defScope s__scan) := ⟨rfl, rfl, rfl, by decide +kernel, rfl, by decide +kernel, by decide +kernel⟩
theorem sc_finer : FnScope ["q", "m", "word", "v"] ["q", "m"] (defScope s_finer) := ⟨rfl, rfl, rfl, by decide +kernel, rfl, by decide +kernel, by decide +kernel⟩
theorem sc_fine_moments : FnScope ["q", "t", "m", "u", "_"] ["q", "t", "m"] (defScope s_fine_moments) := ⟨rfl, rfl, rfl, by decide +kernel, rfl, by decide +kernel, by decide +kernel⟩
theorem sc__finer_angle : FnScope ["a", "m", "word"] ["a", "m"] (defScope s__finer_angle) := ⟨rfl, rfl, rfl, by decide +kernel, rfl, by decide +kernel, by decide +kernel⟩
theorem sc__law_start : FnScope ["script", "cell"] ["script"] (defScope s__law_start) := ⟨rfl, rfl, rfl, by decide +kernel, rfl, by decide +kernel, by decide +kernel⟩
theorem sc__law_draw : FnScope ["state", "bound", "cell", "number"] ["state", "bound"] (defScope s__law_draw) := ⟨rfl, rfl, rfl, by decide +kernel, rfl, by decide +kernel, by decide +kernel⟩
theorem sc__law_pick : FnScope ["state", "things"] ["state", "things"] (defScope s__law_pick) := ⟨rfl, rfl, rfl, by decide +kernel, rfl, by decide +kernel, by decide +kernel⟩
theorem sc__law_number : FnScope ["state"] ["state"] (defScope s__law_number) := ⟨rfl, rfl, rfl, by decide +kernel, rfl, by decide +kernel, by decide +kernel⟩
theorem sc__law_divisor : FnScope ["state"] ["state"] (defScope s__law_divisor) := ⟨rfl, rfl, rfl, by decide +kernel, rfl, by decide +kernel, by decide +kernel⟩
theorem sc__law_angle : FnScope ["state", "deep", "kind", "speed"] ["state", "deep"] (defScope s__law_angle) := ⟨rfl, rfl, rfl, by decide +kernel, rfl, by decide +kernel, by decide +kernel⟩
theorem sc__law_quantity : FnScope ["state", "deep", "kind", "k"] ["state", "deep"] (defScope s__law_quantity) := ⟨rfl, rfl, rfl, by decide +kernel, rfl, by decide +kernel, by decide +kernel⟩
theorem sc__law_wave_part : FnScope ["state", "speed"] ["state"] (defScope s__law_wave_part) := ⟨rfl, rfl, rfl, by decide +kernel, rfl, by decide +kernel, by decide +kernel⟩
theorem sc__law_series : FnScope ["state", "parts", "k", "part", "kind"] ["state"] (defScope s__law_series) := ⟨rfl, rfl, rfl, by decide +kernel, rfl, by decide +kernel, by decide +kernel⟩
theorem sc__law_arch : FnScope ["u", "q"] ["u"] (defScope s__law_arch) := ⟨rfl, rfl, rfl, by decide +kernel, rfl, by decide +kernel, by decide +kernel⟩
theorem sc__law_wave : FnScope ["x"] ["x"] (defScope s__law_wave) := ⟨rfl, rfl, rfl, by decide +kernel, rfl, by decide +kernel, by decide +kernel⟩
theorem sc__law_angle_at : FnScope ["a", "t"] ["a", "t"] (defScope s__law_angle_at) := ⟨rfl, rfl, rfl, by decide +kernel, rfl, by decide +kernel, by decide +kernel⟩
theorem sc__law_value : FnScope ["q", "t", "part"] ["q", "t"] (defScope s__law_value) := ⟨rfl, rfl, rfl, by decide +kernel, rfl, by decide +kernel, by decide +kernel⟩
theorem sc__law_changes : FnScope ["q", "start", "end", "found", "before", "t", "now"] ["q", "start", "end"] (defScope s__law_changes) := ⟨rfl, rfl, rfl, by decide +kernel, rfl, by decide +kernel, by decide +kernel⟩
theorem sc__law_finer : FnScope ["q", "m", "part"] ["q", "m"] (defScope s__law_finer) := ⟨rfl, rfl, rfl, by decide +kernel, rfl, by decide +kernel, by decide +kernel⟩
theorem sc_law : FnScope ["script", "state", "q", "m", "fine", "k", "t", "start", "side", "found", "due", "change"] ["script"] (defScope s_law) := ⟨rfl, rfl, rfl, by decide +kernel, rfl, by decide +kernel, by decide +kernel⟩
structure Cls_Ladder (K : PySem.W.Frag) (mg : Str → Option Value) (C : Addr) : Prop where
  cl : Cls K C
  mg_ : mg "Ladder" = some (.ref C)
  n_q : NoAttr K C "_q"
  n_reaches : NoAttr K C "_reaches"
  n_steps : NoAttr K C "_steps"
  m_Ladder__init : ∃ (f : Addr) (fd : FuncData), Mk K C f ∧ Fun K "__init__" "Ladder.__init__" s_Ladder__init f fd ∧ L2.Binds K fd ["self", "q"] []
  m_Ladder__longest : ∃ (f : Addr) (fd : FuncData), Meth K C "longest" f ∧ Fun K "longest" "Ladder.longest" s_Ladder__longest f fd ∧ L2.Binds K fd ["self", "limit", "room"] []
  m_Ladder___climb : ∃ (f : Addr) (fd : FuncData), Meth K C "_climb" f ∧ Fun K "_climb" "Ladder._climb" s_Ladder___climb f fd ∧ L2.Binds K fd ["self", "limit", "room"] []
  m_Ladder___highest : ∃ (f : Addr) (fd : FuncData), Meth K C "_highest" f ∧ Fun K "_highest" "Ladder._highest" s_Ladder___highest f fd ∧ L2.Binds K fd ["self", "limit"] []
  m_Ladder___guess : ∃ (f : Addr) (fd : FuncData), Meth K C "_guess" f ∧ Fun K "_guess" "Ladder._guess" s_Ladder___guess f fd ∧ L2.Binds K fd ["self", "at", "limit"] []
  m_Ladder___add : ∃ (f : Addr) (fd : FuncData), Meth K C "_add" f ∧ Fun K "_add" "Ladder._add" s_Ladder___add f fd ∧ L2.Binds K fd ["self", "at", "k"] []
structure Cls_Plan (K : PySem.W.Frag) (mg : Str → Option Value) (C : Addr) : Prop where
  cl : Cls K C
  mg_ : mg "Plan" = some (.ref C)
  n_indexes : NoAttr K C "_indexes"
  n_last : NoAttr K C "_last"
  n_rows : NoAttr K C "_rows"
  m_Plan__init : ∃ (f : Addr) (fd : FuncData), Mk K C f ∧ Fun K "__init__" "Plan.__init__" s_Plan__init f fd ∧ L2.Binds K fd ["self", "q"] []
  m_Plan__value : ∃ (f : Addr) (fd : FuncData), Meth K C "value" f ∧ Fun K "value" "Plan.value" s_Plan__value f fd ∧ L2.Binds K fd ["self", "t"] []
  m_Plan___add_quantity : ∃ (f : Addr) (fd : FuncData), Meth K C "_add_quantity" f ∧ Fun K "_add_quantity" "Plan._add_quantity" s_Plan___add_quantity f fd ∧ L2.Binds K fd ["self", "q", "later"] []
  m_Plan___add_angle : ∃ (f : Addr) (fd : FuncData), Meth K C "_add_angle" f ∧ Fun K "_add_angle" "Plan._add_angle" s_Plan___add_angle f fd ∧ L2.Binds K fd ["self", "a", "later"] []
  m_Plan___index_of : ∃ (f : Addr) (fd : FuncData), Meth K C "_index_of" f ∧ Fun K "_index_of" "Plan._index_of" s_Plan___index_of f fd ∧ L2.Binds K fd ["self", "row"] []
/-- what the top has left -/
structure Txt (K : PySem.W.Frag) (mg : Str → Option Value) : Prop where
  c_WAVE_MOST : ∃ t, mg "WAVE_MOST" = some (.int 1000000 t)
  c_TURN : ∃ t, mg "TURN" = some (.int 1296000 t)
  c_HALF_TURN : ∃ t, mg "HALF_TURN" = some (.int 648000 t)
  c_QUARTER : ∃ t, mg "QUARTER" = some (.int 324000 t)
  c_ARCH_TOP : ∃ t, mg "ARCH_TOP" = some (.int 314928000000 t)
  c_ARCH_SCALE : ∃ t, mg "ARCH_SCALE" = some (.int 68024448000 t)
  m_abs : mg "abs" = none
  m_int : mg "int" = none
  m_isinstance : mg "isinstance" = none
  m_len : mg "len" = none
  m_list : mg "list" = none
  m_max : mg "max" = none
  m_min : mg "min" = none
  m_range : mg "range" = none
  m_sum : mg "sum" = none
  m_tuple : mg "tuple" = none
  m_zip : mg "zip" = none
  k_Ladder : ∃ C : Addr, Cls_Ladder K mg C
  k_Plan : ∃ C : Addr, Cls_Plan K mg C
  d_reach : ∃ (f : Addr) (fd : FuncData), Fun K "reach" "reach" s_reach f fd ∧ mg "reach" = some (.ref f) ∧ L2.Binds K fd ["q", "k"] []
  d_angle_reach : ∃ (f : Addr) (fd : FuncData), Fun K "angle_reach" "angle_reach" s_angle_reach f fd ∧ mg "angle_reach" = some (.ref f) ∧ L2.Binds K fd ["a", "k"] []
  d__rounded_up : ∃ (f : Addr) (fd : FuncData), Fun K "_rounded_up" "_rounded_up" s__rounded_up f fd ∧ mg "_rounded_up" = some (.ref f) ∧ L2.Binds K fd ["n", "d"] []
  d__most_and_reach : ∃ (f : Addr) (fd : FuncData), Fun K "_most_and_reach" "_most_and_reach" s__most_and_reach f fd ∧ mg "_most_and_reach" = some (.ref f) ∧ L2.Binds K fd ["q", "k"] []
  d__uncapped : ∃ (f : Addr) (fd : FuncData), Fun K "_uncapped" "_uncapped" s__uncapped f fd ∧ mg "_uncapped" = some (.ref f) ∧ L2.Binds K fd ["q", "k"] []
  d__wave_reach : ∃ (f : Addr) (fd : FuncData), Fun K "_wave_reach" "_wave_reach" s__wave_reach f fd ∧ mg "_wave_reach" = some (.ref f) ∧ L2.Binds K fd ["far"] []
  d_arch : ∃ (f : Addr) (fd : FuncData), Fun K "arch" "arch" s_arch f fd ∧ mg "arch" = some (.ref f) ∧ L2.Binds K fd ["u"] []
  d_wave : ∃ (f : Addr) (fd : FuncData), Fun K "wave" "wave" s_wave f fd ∧ mg "wave" = some (.ref f) ∧ L2.Binds K fd ["x"] []
  d_changes : ∃ (f : Addr) (fd : FuncData), Fun K "changes" "changes" s_changes f fd ∧ mg "changes" = some (.ref f) ∧ L2.Binds K fd ["q", "start", "end"] []
  d__scan : ∃ (f : Addr) (fd : FuncData), Fun K "_scan" "_scan" s__scan f fd ∧ mg "_scan" = some (.ref f) ∧ L2.Binds K fd ["q", "start", "end"] []
  d_finer : ∃ (f : Addr) (fd : FuncData), Fun K "finer" "finer" s_finer f fd ∧ mg "finer" = some (.ref f) ∧ L2.Binds K fd ["q", "m"] []
  d_fine_moments : ∃ (f : Addr) (fd : FuncData), Fun K "fine_moments" "fine_moments" s_fine_moments f fd ∧ mg "fine_moments" = some (.ref f) ∧ L2.Binds K fd ["q", "t", "m"] []
  d__finer_angle : ∃ (f : Addr) (fd : FuncData), Fun K "_finer_angle" "_finer_angle" s__finer_angle f fd ∧ mg "_finer_angle" = some (.ref f) ∧ L2.Binds K fd ["a", "m"] []
  d__law_start : ∃ (f : Addr) (fd : FuncData), Fun K "_law_start" "_law_start" s__law_start f fd ∧ mg "_law_start" = some (.ref f) ∧ L2.Binds K fd ["script"] []
  d__law_draw : ∃ (f : Addr) (fd : FuncData), Fun K "_law_draw" "_law_draw" s__law_draw f fd ∧ mg "_law_draw" = some (.ref f) ∧ L2.Binds K fd ["state", "bound"] []
  d__law_pick : ∃ (f : Addr) (fd : FuncData), Fun K "_law_pick" "_law_pick" s__law_pick f fd ∧ mg "_law_pick" = some (.ref f) ∧ L2.Binds K fd ["state", "things"] []
  d__law_number : ∃ (f : Addr) (fd : FuncData), Fun K "_law_number" "_law_number" s__law_number f fd ∧ mg "_law_number" = some (.ref f) ∧ L2.Binds K fd ["state"] []
  d__law_divisor : ∃ (f : Addr) (fd : FuncData), Fun K "_law_divisor" "_law_divisor" s__law_divisor f fd ∧ mg "_law_divisor" = some (.ref f) ∧ L2.Binds K fd ["state"] []
  d__law_angle : ∃ (f : Addr) (fd : FuncData), Fun K "_law_angle" "_law_angle" s__law_angle f fd ∧ mg "_law_angle" = some (.ref f) ∧ L2.Binds K fd ["state", "deep"] []
  d__law_quantity : ∃ (f : Addr) (fd : FuncData), Fun K "_law_quantity" "_law_quantity" s__law_quantity f fd ∧ mg "_law_quantity" = some (.ref f) ∧ L2.Binds K fd ["state", "deep"] []
  d__law_wave_part : ∃ (f : Addr) (fd : FuncData), Fun K "_law_wave_part" "_law_wave_part" s__law_wave_part f fd ∧ mg "_law_wave_part" = some (.ref f) ∧ L2.Binds K fd ["state"] []
  d__law_series : ∃ (f : Addr) (fd : FuncData), Fun K "_law_series" "_law_series" s__law_series f fd ∧ mg "_law_series" = some (.ref f) ∧ L2.Binds K fd ["state"] []
  d__law_arch : ∃ (f : Addr) (fd : FuncData), Fun K "_law_arch" "_law_arch" s__law_arch f fd ∧ mg "_law_arch" = some (.ref f) ∧ L2.Binds K fd ["u"] []
  d__law_wave : ∃ (f : Addr) (fd : FuncData), Fun K "_law_wave" "_law_wave" s__law_wave f fd ∧ mg "_law_wave" = some (.ref f) ∧ L2.Binds K fd ["x"] []
  d__law_angle_at : ∃ (f : Addr) (fd : FuncData), Fun K "_law_angle_at" "_law_angle_at" s__law_angle_at f fd ∧ mg "_law_angle_at" = some (.ref f) ∧ L2.Binds K fd ["a", "t"] []
  d__law_value : ∃ (f : Addr) (fd : FuncData), Fun K "_law_value" "_law_value" s__law_value f fd ∧ mg "_law_value" = some (.ref f) ∧ L2.Binds K fd ["q", "t"] []
  d__law_changes : ∃ (f : Addr) (fd : FuncData), Fun K "_law_changes" "_law_changes" s__law_changes f fd ∧ mg "_law_changes" = some (.ref f) ∧ L2.Binds K fd ["q", "start", "end"] []
  d__law_finer : ∃ (f : Addr) (fd : FuncData), Fun K "_law_finer" "_law_finer" s__law_finer f fd ∧ mg "_law_finer" = some (.ref f) ∧ L2.Binds K fd ["q", "m"] []
  d_law : ∃ (f : Addr) (fd : FuncData), Fun K "law" "law" s_law f fd ∧ mg "law" = some (.ref f) ∧ L2.Binds K fd ["script"] []
end K11

set_option Elab.async false
set_option linter.all false
set_option maxRecDepth 100000
namespace Rd
open PySem PySem.Spec PyProof.Rows L2
/-! objects: fields, methods, making; while -/
def FLD (K : PySem.W.Frag) (f : Str) (x : V) (H : Hp) (Q : VK) : Prop := ∃ a C dx fs v, x = .ref a ∧ H a = some (.ins C dx fs) ∧ Cls K C ∧ NoAttr K C f ∧ fs.lookup f = some v ∧ Q v H
def PUTF (K : PySem.W.Frag) (f : Str) (v x : V) (H : Hp) (N : Hp → Prop) : Prop := ∃ a C dx fs, x = .ref a ∧ H a = some (.ins C dx fs) ∧ Cls K C ∧ NoAttr K C f ∧ fs.length < 1000 ∧ N (upd H a (.ins C dx (putF f v fs)))
def METH (C : Addr) (m : Str) (x : V) (H : Hp) (N : Prop) : Prop := ∃ a dx fs, x = .ref a ∧ H a = some (.ins C dx fs) ∧ fs.lookup m = none ∧ N
def MAKE (C : Addr) (sp : Sp) (vs : List V) (H : Hp) (Q : VK) (E : XK) : Prop := ∀ x dx, H x = none → H dx = none → dx ≠ x → CALL sp (.ref x :: vs) (upd (upd H dx (.own x)) x (.ins C dx [])) (fun v H2 => v = .non ∧ Q (.ref x) H2) E
def WB (Pv : L2.St → Hp → Prop) (μ : L2.St → Hp → Nat) (m : Nat) (tb : TS) (D : Ends) (σ : L2.St) (H : Hp) : Prop :=
  ∃ N : L2.St → Hp → Prop, (∀ σ' H', N σ' H' → ∃ m', m' < m ∧ (m' = μ σ' H' ∧ Pv σ' H')) ∧ tb { D with nx := N, ct := N, bk := D.nx } σ H
section
variable {K : PySem.W.Frag} {σ : L2.St} {H : Hp} {Q : VK} {ta tv : TE} {tr : TA} {v : V} {nx bk ct : L2.St → Hp → Prop} {rt : VK} {f : Str} {a C dx : Addr} {fs : List (Str × V)} {sp : Sp} {E : XK}
theorem fld (q : ta σ H fun x H1 => FLD K f x H1 Q) : tFld K ta f σ H Q := q
theorem fldI (h : H a = some (.ins C dx fs)) (c : Cls K C) (n : NoAttr K C f) (l : fs.lookup f = some v) (q : Q v H) : FLD K f (.ref a) H Q := ⟨a, C, dx, fs, v, rfl, h, c, n, l, q⟩
theorem putf (q : tv σ H fun y H1 => ta σ H1 fun x H2 => PUTF K f y x H2 (nx σ)) : sFld K ta tv f ⟨nx, rt, bk, ct⟩ σ H := q
theorem putI {gs : List (Str × V)} {N : Hp → Prop} (h : H a = some (.ins C dx fs)) (c : Cls K C) (n : NoAttr K C f) (l : fs.length ≤ 900) (e : putF f v fs = gs) (q : N (upd H a (.ins C dx gs))) : PUTF K f v (.ref a) H N :=
  ⟨a, C, dx, fs, rfl, h, c, n, by omega, by rw [e]; exact q⟩
theorem meth {m : Str} (q : ta σ H fun x H1 => METH C m x H1 (tr σ H1 fun vs H2 => CALL sp (x :: vs) H2 Q E)) : tMeth C m sp [] E ta tr σ H Q := q
theorem methI {m : Str} {N : Prop} (h : H a = some (.ins C dx fs)) (l : fs.lookup m = none) (q : N) : METH C m (.ref a) H N := ⟨a, dx, fs, rfl, h, l, q⟩
theorem make (q : tr σ H fun vs H1 => MAKE C sp vs H1 Q E) : tMake C sp [] E tr σ H Q := q
theorem whl {c : TT} {tb : TS} (Pv : L2.St → Hp → Prop) (μ : L2.St → Hp → Nat) (h0 : Pv σ H)
    (hs : ∀ σ H, Pv σ H → c σ H fun b H1 => if b = true then WB Pv μ (μ σ H) tb ⟨nx, rt, bk, ct⟩ σ H1 else nx σ H1) : tWhile c tb ⟨nx, rt, bk, ct⟩ σ H := by
  refine ⟨fun m σ H => m = μ σ H ∧ Pv σ H, ⟨_, rfl, h0⟩, ?_⟩
  rintro m σ H ⟨rfl, p⟩
  exact hs σ H p
theorem wb {tb : TS} {Pv : L2.St → Hp → Prop} {μ : L2.St → Hp → Nat} {m : Nat} (q : tb ⟨fun σ' H' => Pv σ' H' ∧ μ σ' H' < m, rt, nx, fun σ' H' => Pv σ' H' ∧ μ σ' H' < m⟩ σ H) : WB Pv μ m tb ⟨nx, rt, bk, ct⟩ σ H :=
  ⟨_, fun σ' H' ⟨p, l⟩ => ⟨_, l, rfl, p⟩, q⟩
end
/-! two lists side by side, the second one no longer than the first -/
def ZIPI (K : PySem.W.Frag) (g : TG) (tb : TS) (D : Ends) (σ : L2.St) (vs : List V) (H : Hp) : Prop := tFor (iZip K fun _ H Q => Q vs H) g tb D σ H
theorem forz {K : PySem.W.Frag} {σ : L2.St} {H : Hp} {tr : TA} {g : TG} {s1 : TS} {D : Ends} (q : tr σ H fun vs H1 => ZIPI K g s1 D σ vs H1) : tFor (iZip K tr) g s1 D σ H := q
theorem zipGo {K : PySem.W.Frag} {σ : L2.St} {H : Hp} {a b : Addr} {xs ys : List V} {g : TG} {s1 : TS} {nx bk ct : L2.St → Hp → Prop} {rt : VK} (ha : SqL K H a xs) (hb : SqL K H b ys) (hl : ys.length ≤ xs.length) (Pv : Nat → L2.St → Hp → Prop) (h0 : Pv 0 σ H)
    (keepA : ∀ i σ H, Pv i σ H → SqL K H a xs) (keepB : ∀ i σ H, Pv i σ H → SqL K H b ys)
    (hs : ∀ (i : Nat) (x y : V) (c : Addr) (σ : L2.St) (H : Hp), xs[i]? = some x → ys[i]? = some y → Pv i σ H → H c = none → g (.ref c) σ (upd H c (.tup [x, y])) fun σ2 H2 => s1 ⟨Pv (i + 1), rt, nx, Pv (i + 1)⟩ σ2 H2) (hd : ∀ σ H, Pv ys.length σ H → nx σ H) :
    ZIPI K g s1 ⟨nx, rt, bk, ct⟩ σ [.ref a, .ref b] H := by
  refine ⟨a, b, xs, ys, rfl, ha, hb, fun i left σ H => left + i = ys.length ∧ Pv i σ H, ⟨ys.length, rfl, h0⟩, ?_⟩
  rintro i left σ H ⟨sum, p⟩
  have qa := keepA i σ H p
  have qb := keepB i σ H p
  cases left with
  | zero =>
    have e : i = ys.length := by omega
    refine .inl ⟨⟨xs, ys, qa, qb, .inr (by omega)⟩, hd σ H (by rw [← e]; exact p)⟩
  | succ left =>
    have i1 : i < ys.length := by omega
    refine .inr ⟨⟨xs, ys, xs[i], ys[i], qa, qb, List.getElem?_eq_getElem (by omega), List.getElem?_eq_getElem i1⟩, Pv (i + 1), fun σ' H' p' => ⟨left, by omega, by omega, p'⟩, ?_⟩
    rintro v H' ⟨c, x, y, rfl, free, rfl, gx, gy⟩
    exact hs i x y c σ H (gx xs qa) (gy ys qb) p free

/-! a dict whose keys are tuples that hold tuples -/
mutual
/-- v stands for the key k -/
inductive NK (H : Hp) : NestedKey → V → Prop
  | i (n : Int) : NK H (.num n) (.int n)
  | s (z : Str) : NK H (.text z) (.str z)
  | t {p : Addr} {vs : List V} {ks : List NestedKey} : H p = some (.tup vs) → NKs H ks vs → NK H (.tup ks) (.ref p)
inductive NKs (H : Hp) : List NestedKey → List V → Prop
  | z : NKs H [] []
  | c {k : NestedKey} {v : V} {ks : List NestedKey} {vs : List V} : NK H k v → NKs H ks vs → NKs H (k :: ks) (v :: vs)
end
mutual
theorem NK.sub {H H' : Hp} (g : ∀ p xs, H p = some (.tup xs) → H' p = some (.tup xs)) : ∀ (k : NestedKey) (v : V), NK H k v → NK H' k v
  | .none, _, h => nomatch h
  | .num n, _, h => by cases h; exact .i n
  | .text z, _, h => by cases h; exact .s z
  | .tup ks, _, h => by
    cases h with
    | t e r => exact .t (g _ _ e) (NKs.sub g ks _ r)
theorem NKs.sub {H H' : Hp} (g : ∀ p xs, H p = some (.tup xs) → H' p = some (.tup xs)) : ∀ (ks : List NestedKey) (vs : List V), NKs H ks vs → NKs H' ks vs
  | [], _, h => by cases h; exact .z
  | k :: ks, _, h => by
    cases h with
    | c a r => exact .c (NK.sub g k _ a) (NKs.sub g ks _ r)
end
mutual
theorem NK.real {P : Program} {w : World} {H : Hp} {h : Heap} (ok : HOk P w H h) : ∀ (k : NestedKey) (v : V) (u : Value), NK H k v → RelV v u → NestedIs h k u
  | .none, _, _, e, _ => nomatch e
  | .num n, _, _, e, r => by
    cases e
    obtain ⟨t, rfl⟩ := r
    exact .int n t
  | .text z, _, _, e, r => by
    cases e
    obtain ⟨t, rfl⟩ := r
    exact .text z t
  | .tup ks, _, _, e, r => by
    cases e with
    | @t p vs _ e q =>
      cases r
      obtain ⟨_, its, rv, o, h1, h2, n, h3⟩ := (show ObjOk P w H h p (.tup vs) from ok p _ e)
      exact .tup h1 h2 h3 (by simpa using NKs.real ok ks vs its q rv)
theorem NKs.real {P : Program} {w : World} {H : Hp} {h : Heap} (ok : HOk P w H h) : ∀ (ks : List NestedKey) (vs : List V) (us : List Value), NKs H ks vs → Vals vs us → NestedAll h ks us
  | [], _, _, e, r => by
    cases e
    cases r
    exact .nil
  | k :: ks, _, _, e, r => by
    cases e with
    | c a q =>
      cases r with
      | cons x y => exact .cons (NK.real ok k _ _ a x) (NKs.real ok ks _ _ q y)
end

abbrev Ent := NestedKey × Addr × V
/-- what is known of the dict's own object -/
def ndF (P : Program) (w : World) (d : Addr) (L : List Ent) (h : Heap) : Prop :=
  L.length ≤ sizeLine ∧ (d == sysModules) = false ∧ ∃ ys : List (NestedKey × Addr × Value), Paired (fun (x : Ent) (y : NestedKey × Addr × Value) => x.1 = y.1 ∧ x.2.1 = y.2.1 ∧ RelV x.2.2 y.2.2) L ys ∧
    ∃ ob es ep, h.get? d = some ob ∧ ob.ExactDict ∧ ob.data = .dict es ep ∧ es.toList = ys.map (entryOfKey (nestedKind P w)) ∧ (ys.map (·.1)).Nodup
def ndO (P : Program) (w : World) (d : Addr) (L : List Ent) : HO := .ext (ndF P w d L)
/-- the dict at d with its keys -/
def ND (P : Program) (w : World) (H : Hp) (d : Addr) (L : List Ent) : Prop := H d = some (ndO P w d L) ∧ ∀ x ∈ L, NK H x.1 (.ref x.2.1) ∧ x.1.depth ≤ 8
/-- the value at a key -/
def ndAt (L : List Ent) (k : NestedKey) : Option V := (L.find? fun x => decide (x.1 = k)).map (·.2.2)

theorem nd_ok {P : Program} {w : World} {H : Hp} {h : Heap} {d : Addr} {L : List Ent} (f : ndF P w d L h) : ObjOk P w H h d (ndO P w d L) := by
  refine ⟨f, ?_, fun h1 h2 g k => ?_⟩
  · obtain ⟨_, _, _, _, ob, _, _, e, _⟩ := f
    exact ⟨ob, e⟩
  · obtain ⟨a, b, ys, c, ob, es, ep, e, r⟩ := g
    exact ⟨a, b, ys, c, ob, es, ep, k _ e, r⟩
theorem nd_full {P : Program} {w : World} {H : Hp} {h : Heap} {d : Addr} {L : List Ent} (ok : HOk P w H h) (D : ND P w H d L) : L.length ≤ sizeLine ∧ (d == sysModules) = false ∧
    ∃ ys : List (NestedKey × Addr × Value), Paired (fun (x : Ent) (y : NestedKey × Addr × Value) => x.1 = y.1 ∧ x.2.1 = y.2.1 ∧ RelV x.2.2 y.2.2) L ys ∧ h.DictOfH (nestedKind P w) d ys := by
  obtain ⟨e, kd⟩ := D
  obtain ⟨⟨a, b, ys, c, ob, es, ep, e1, e2, e3, e4, e5⟩, _⟩ := (show ObjOk P w H h d (ndO P w d L) from ok d _ e)
  refine ⟨a, b, ys, c, ob, es, ep, e1, e2, e3, e4, fun y hy => ?_, e5⟩
  have all : ∀ {l : List Ent} {m : List (NestedKey × Addr × Value)}, Paired (fun (x : Ent) (y : NestedKey × Addr × Value) => x.1 = y.1 ∧ x.2.1 = y.2.1 ∧ RelV x.2.2 y.2.2) l m → (∀ x ∈ l, NK H x.1 (.ref x.2.1) ∧ x.1.depth ≤ 8) → ∀ y ∈ m, (nestedKind P w).is h y.1 y.2.1 := by
    intro l m q
    induction q with
    | nil => intro _ y hy; exact nomatch hy
    | @cons x y' l' m' hq t ih =>
      intro g y hy
      rcases List.mem_cons.mp hy with e | hy
      · subst e
        obtain ⟨n1, n2⟩ := g x (List.mem_cons_self ..)
        rw [hq.1, hq.2.1] at n1
        rw [hq.1] at n2
        exact ⟨NK.real ok _ _ _ n1 (show RelV (.ref y.2.1) (.ref y.2.1) from rfl), n2⟩
      · exact ih (fun x hx => g x (List.mem_cons_of_mem _ hx)) y hy
  exact all c kd y hy
theorem nd_rel {L : List Ent} {ys : List (NestedKey × Addr × Value)} (c : Paired (fun (x : Ent) (y : NestedKey × Addr × Value) => x.1 = y.1 ∧ x.2.1 = y.2.1 ∧ RelV x.2.2 y.2.2) L ys) (k : NestedKey) : RelO (ndAt L k) ((atKey ys k).map (·.2)) := by
  induction c with
  | nil => exact True.intro
  | @cons x y l m h t ih =>
    by_cases e : y.1 = k
    · have e' : x.1 = k := h.1.trans e
      have a1 : ndAt (x :: l) k = some x.2.2 := by simp [ndAt, List.find?_cons, e']
      have a2 : atKey (y :: m) k = some y.2 := by simp [atKey, List.find?_cons, e]
      rw [a1, a2]
      exact h.2.2
    · have e' : ¬ x.1 = k := fun z => e (h.1.symm.trans z)
      have a1 : ndAt (x :: l) k = ndAt l k := by simp [ndAt, List.find?_cons, e']
      have a2 : atKey (y :: m) k = atKey m k := by simp [atKey, List.find?_cons, e]
      rw [a1, a2]
      exact ih

section
variable {X : Cx} {pins : List (Addr × Obj)} {σ : L2.St} {H : Hp} {s : Shared} {d b : Addr} {L : List Ent} {k : NestedKey} {A : Around} {E : Value → Shared → Prop}
theorem nd_isKey (I : Inv X pins σ H s) (hk : NK H k (.ref b)) (hd : k.depth ≤ 8) : (nestedKind X.prog X.w).is s.heap k b := ⟨NK.real I.hok _ _ _ hk (show RelV (.ref b) (.ref b) from rfl), hd⟩
theorem nd_get {v : V} {Q : Value → Shared → Prop} (hu : A.units + 64 < cLine) (I : Inv X pins σ H s) (D : ND X.prog X.w H d L) (hk : NK H k (.ref b)) (hd : k.depth ≤ 8) (l : ndAt L k = some v)
    (q : ∀ u s', Inv X pins σ H s' → RelV v u → Q u s') : wpAny (model X.prog X.w) A (getItem (.ref d) (.ref b)) Q E s := by
  obtain ⟨_, _, ys, c, dd⟩ := nd_full I.hok D
  obtain ⟨u, hu', ru⟩ := RelO.some_of (v := v) (o := (atKey ys k).map (·.2)) (by rw [← l]; exact nd_rel c k)
  obtain ⟨p, hp, hp2⟩ := Option.map_eq_some_iff.mp hu'
  refine wpAny_getItem_heap (knd := nestedKind X.prog X.w) (show A.units + 1 + 8 < cLine by omega) (nd_isKey I hk hd) dd hp ?_
  rw [hp2]
  exact q u _ (I.tok _) ru
theorem nd_notin {Q : Value → Shared → Prop} (hu : A.units + 64 < cLine) (I : Inv X pins σ H s) (D : ND X.prog X.w H d L) (hk : NK H k (.ref b)) (hd : k.depth ≤ 8)
    (q : ∀ s', Inv X pins σ H s' → Q (.bool (!(ndAt L k).isSome)) s') : wpAny (model X.prog X.w) A (compareOp .NotIn (.ref b) (.ref d)) Q E s := by
  obtain ⟨_, hm, ys, c, dd⟩ := nd_full I.hok D
  refine wpAny_notIn_heap (knd := nestedKind X.prog X.w) (show A.units + 1 + 8 < cLine by omega) (nd_isKey I hk hd) hm dd ?_
  have z := (nd_rel c k).isSome_eq
  rw [Option.isSome_map] at z
  rw [← z]
  exact q _ (I.tok _)
theorem nd_set {v : V} {u : Value} {Q : Unit → Shared → Prop} (hu : A.units + 64 < cLine) (I : Inv X pins σ H s) (D : ND X.prog X.w H d L) (hk : NK H k (.ref b)) (hd : k.depth ≤ 8) (l : ndAt L k = none) (hz : L.length < sizeLine) (ru : RelV v u)
    (q : ∀ s', Inv X pins σ (upd H d (ndO X.prog X.w d (L ++ [(k, b, v)]))) s' → Q () s') : wpAny (model X.prog X.w) A (setItem (.ref d) (.ref b) u) Q E s := by
  obtain ⟨_, hm, ys, c, dd⟩ := nd_full I.hok D
  have hl : ys.length = L.length := (Paired.length c).symm
  have no : atKey ys k = none := by
    have z := (nd_rel c k).isSome_eq
    rw [l, Option.isSome_map] at z
    cases e : atKey ys k with
    | none => rfl
    | some x => rw [e] at z; exact nomatch z
  refine wpAny_setItem_heap (knd := nestedKind X.prog X.w) (hsz := by omega) (show A.units + 1 + 8 < cLine by omega) (nd_isKey I hk hd) dd fun h' dd' hs => q _ ?_
  rw [storedH_new no] at dd'
  obtain ⟨ob, es, ep, e1, e2, e3, e4, _, e5⟩ := dd'
  refine d_write I (by rw [D.1]; exact True.intro) hs ⟨ob, e1⟩ (nd_ok ⟨?_, hm, _, Paired.snoc c ⟨rfl, rfl, ru⟩, ob, es, ep, e1, e2, e3, e4, e5⟩)
  rw [List.length_append, List.length_singleton]
  omega
end

/-! readings -/
def tNGet (P : Program) (w : World) (td ty : TE) : TE := fun σ H Q => td σ H fun x H1 => ty σ H1 fun y H2 => ∃ d b L k v, x = .ref d ∧ y = .ref b ∧ ND P w H2 d L ∧ NK H2 k (.ref b) ∧ k.depth ≤ 8 ∧ ndAt L k = some v ∧ Q v H2
def tNNot (P : Program) (w : World) (ty td : TE) : TE := fun σ H Q => ty σ H fun y H1 => td σ H1 fun x H2 => ∃ d b L k, x = .ref d ∧ y = .ref b ∧ ND P w H2 d L ∧ NK H2 k (.ref b) ∧ k.depth ≤ 8 ∧ Q (.bl (!(ndAt L k).isSome)) H2
def sNPut (P : Program) (w : World) (td ty tv : TE) : TS := fun D σ H => tv σ H fun v H1 => td σ H1 fun x H2 => ty σ H2 fun y H3 => ∃ d b L k, x = .ref d ∧ y = .ref b ∧ ND P w H3 d L ∧ NK H3 k (.ref b) ∧ k.depth ≤ 8 ∧ ndAt L k = none ∧ L.length < sizeLine ∧ D.nx σ (upd H3 d (ndO P w d (L ++ [(k, b, v)])))
def tNNew (P : Program) (w : World) : TE := fun _ H Q => ∀ p, H p = none → Q (.ref p) (upd H p (ndO P w p []))
section
variable {X : Cx} {o i value : Expr} {pos pos' : Pos} {td ty tv : TE}
theorem nd_type {pins : List (Addr × Obj)} {σ : L2.St} {H : Hp} {s : Shared} {d : Addr} {L : List Ent} (I : Inv X pins σ H s) (D : ND X.prog X.w H d L) : s.TypeIs (.ref d) "dict" := by
  obtain ⟨_, _, ys, c, dd⟩ := nd_full I.hok D
  exact dd.typeIs
theorem pe_nget (hu : X.A.units + 64 < cLine) (ho : PE X o td) (hi : PE X i ty) (hs : NoSl i) : PE X (.Subscript o i pos) (tNGet X.prog X.w td ty) := by
  refine ⟨fun pins s σ H Q I h => ?_⟩
  refine subD_of PySem.F.slot_dict_getitem.lookup hs (thn (ho.run pins s σ H _ I h) fun u s1 ⟨x, H1, I1, rx, q1⟩ => thn (hi.run pins s1 σ H1 _ I1 q1) fun iv s2 ⟨y, H2, I2, ry, d, b, L, k, v, ex, ey, D, hk, hd, l, q2⟩ => ?_)
  subst ex ey
  obtain rfl : u = Value.ref d := rx
  obtain rfl : iv = Value.ref b := ry
  exact ⟨nd_type I2 D, nd_get hu I2 D hk hd l fun w' s3 I3 rw' => ⟨v, H2, I3, rw', q2⟩⟩
theorem pc_nnot (hu : X.A.units + 64 < cLine) (hi : PE X i ty) (ho : PE X o td) : PC X .NotIn i o (tNNot X.prog X.w ty td) := by
  refine ⟨fun pins s σ H Q I h => ?_⟩
  refine thn (hi.run pins s σ H _ I h) fun iv s1 ⟨y, H1, I1, ry, q1⟩ => thn (ho.run pins s1 σ H1 _ I1 q1) fun u s2 ⟨x, H2, I2, rx, d, b, L, k, ex, ey, D, hk, hd, q2⟩ => ?_
  subst ex ey
  obtain rfl : u = Value.ref d := rx
  obtain rfl : iv = Value.ref b := ry
  exact nd_notin hu I2 D hk hd fun s3 I3 => ⟨.bl _, H2, I3, rfl, q2⟩
theorem ps_nput (hu : X.A.units + 64 < cLine) (ho : PE X o td) (hi : PE X i ty) (hv : PE X value tv) (hs : swapsWith value (some (.Subscript o i pos')) pos.line X.env = pure false) :
    PS X (.Assign [.Subscript o i pos'] value pos) (sNPut X.prog X.w td ty tv) := by
  refine ⟨fun pins s σ H D I h => ?_⟩
  refine wpAny_Assign_Subscript (thn (hv.run pins s σ H _ I h) fun r s1 ⟨v, H1, I1, rv, q1⟩ => thn (ho.run pins s1 σ H1 _ I1 q1) fun u s2 ⟨x, H2, I2, rx, q2⟩ => thn (hi.run pins s2 σ H2 _ I2 q2) fun iv s3 ⟨y, H3, I3, ry, d, b, L, k, ex, ey, K, hk, hd, l, hz, q3⟩ => ?_) hs
  subst ex ey
  obtain rfl : u = Value.ref d := rx
  obtain rfl : iv = Value.ref b := ry
  exact nd_set hu I3 K hk hd l hz rv fun s4 I4 => ⟨σ, _, I4, q3⟩
theorem pe_nnew : PE X (.Dict [] [] pos) (tNNew X.prog X.w) := ⟨fun pins s σ H Q I h =>
  wpAny_Dict_empty ⟨.ref s.heap.objs.size, _, I.laid (a := s.heap.objs.size) (o := ndO X.prog X.w s.heap.objs.size []) (t' := s.toks) (fun _ _ q => Heap.get?_push_of_some _ q) (Nat.le_refl _)
    (nd_ok ⟨Nat.zero_le _, beq_eq_false_iff_ne.mpr (Ne.symm (Nat.ne_of_lt I.big)), [], .nil, _, #[], 0, Heap.get?_push_size _ rfl, ⟨rfl, rfl, rfl⟩, rfl, rfl, List.nodup_nil⟩), rfl, h _ (I.hok.fresh (Nat.le_refl _))⟩⟩
end
def NN (P : Program) (w : World) (y x : V) (H : Hp) (Q : VK) : Prop := ∃ d b L k, x = .ref d ∧ y = .ref b ∧ ND P w H d L ∧ NK H k (.ref b) ∧ k.depth ≤ 8 ∧ Q (.bl (!(ndAt L k).isSome)) H
def NG (P : Program) (w : World) (x y : V) (H : Hp) (Q : VK) : Prop := ∃ d b L k v, x = .ref d ∧ y = .ref b ∧ ND P w H d L ∧ NK H k (.ref b) ∧ k.depth ≤ 8 ∧ ndAt L k = some v ∧ Q v H
def NP (P : Program) (w : World) (x y v : V) (H : Hp) (N : Hp → Prop) : Prop := ∃ d b L k, x = .ref d ∧ y = .ref b ∧ ND P w H d L ∧ NK H k (.ref b) ∧ k.depth ≤ 8 ∧ ndAt L k = none ∧ L.length < sizeLine ∧ N (upd H d (ndO P w d (L ++ [(k, b, v)])))
section
variable {P : Program} {w : World} {σ : L2.St} {H : Hp} {Q : VK} {td ty tv : TE} {nx bk ct : L2.St → Hp → Prop} {rt : VK} {d b : Addr} {L : List Ent} {k : NestedKey} {v : V}
theorem nnot (q : ty σ H fun y H1 => td σ H1 fun x H2 => NN P w y x H2 Q) : tNNot P w ty td σ H Q := q
theorem nget (q : td σ H fun x H1 => ty σ H1 fun y H2 => NG P w x y H2 Q) : tNGet P w td ty σ H Q := q
theorem nput (q : tv σ H fun v H1 => td σ H1 fun x H2 => ty σ H2 fun y H3 => NP P w x y v H3 (nx σ)) : sNPut P w td ty tv ⟨nx, rt, bk, ct⟩ σ H := q
theorem nnew (q : ∀ p, H p = none → Q (.ref p) (upd H p (ndO P w p []))) : tNNew P w σ H Q := q
theorem nnI (D : ND P w H d L) (hk : NK H k (.ref b)) (hd : k.depth ≤ 8) (q : Q (.bl (!(ndAt L k).isSome)) H) : NN P w (.ref b) (.ref d) H Q := ⟨d, b, L, k, rfl, rfl, D, hk, hd, q⟩
theorem ngI (D : ND P w H d L) (hk : NK H k (.ref b)) (hd : k.depth ≤ 8) (l : ndAt L k = some v) (q : Q v H) : NG P w (.ref d) (.ref b) H Q := ⟨d, b, L, k, v, rfl, rfl, D, hk, hd, l, q⟩
theorem npI {N : Hp → Prop} (D : ND P w H d L) (hk : NK H k (.ref b)) (hd : k.depth ≤ 8) (l : ndAt L k = none) (hl : L.length ≤ 1000) (q : N (upd H d (ndO P w d (L ++ [(k, b, v)])))) : NP P w (.ref d) (.ref b) v H N := ⟨d, b, L, k, rfl, rfl, D, hk, hd, l, small1000 hl, q⟩
theorem ndAt_new (l : ndAt L k = none) : ndAt (L ++ [(k, b, v)]) k = some v := by
  unfold ndAt at l ⊢
  rw [List.find?_append]
  have : L.find? (fun x => decide (x.1 = k)) = none := by
    cases e : L.find? (fun x => decide (x.1 = k)) with
    | none => rfl
    | some x => rw [e] at l; cases l
  rw [this]
  simp
end

end Rd

set_option Elab.async false
set_option linter.all false
set_option maxRecDepth 100000
namespace K11
open PySem PySem.Spec PyProof.Rows L2
/-! the reader: steps that need no word -/
local macro_rules | `(tactic| walk_at "hp") => `(tactic| first
  | with_reducible assumption
  | exact upd_same
  | (((with_reducible apply Rd.keep); (with_reducible assumption)); walk_at "hp"))
local macro_rules | `(tactic| walk_at "slot") => `(tactic| first | with_reducible apply Rd.slot0 | with_reducible apply Rd.slot1 | with_reducible apply Rd.slot2 | with_reducible apply Rd.slot3 | with_reducible apply Rd.slot4 | with_reducible apply Rd.slot5 | with_reducible apply Rd.slot6 | with_reducible apply Rd.slot7 | with_reducible apply Rd.slot8 | with_reducible apply Rd.slot9 | with_reducible apply Rd.slot10 | with_reducible apply Rd.slot11 | with_reducible apply Rd.slot12 | with_reducible apply Rd.slot13 | with_reducible apply Rd.slot14 | with_reducible apply Rd.slot15 | with_reducible apply Rd.slot16 | with_reducible apply Rd.slot17 | with_reducible apply Rd.slot18 | with_reducible apply Rd.slot19 | with_reducible apply Rd.slot20 | with_reducible apply Rd.slot21 | with_reducible apply Rd.slot22 | with_reducible apply Rd.slot23)
local macro_rules | `(tactic| walk_at "dg") => `(tactic| first | exact g_left | exact g_at | exact g_cells | exact g_mix)
local macro_rules | `(tactic| walk_at "dp") => `(tactic| first | exact p_left | exact p_at | exact p_mix)
local macro_rules | `(tactic| walk_at "le") => `(tactic| first | decide | (simp only [List.length_map, List.length_append]; omega) | omega)
local macro_rules | `(tactic| walk_at "side") => `(tactic| first
  | with_reducible assumption
  | exact Rd.cmulL (by omega) (by omega)
  | exact Rd.cmulR (by omega) (by omega)
  | exact Rd.cpow (by decide) (by decide) (by decide)
  | exact Rd.cdiv (by omega) (by omega)
  | omega)
local macro_rules | `(tactic| walk_at "sq") => `(tactic| first
  | with_reducible assumption
  | exact SqL.of (by walk_at "hp")
  | exact SqT.of (by walk_at "hp"))
local macro_rules | `(tactic| walk_at "at") => `(tactic| first | with_reducible assumption | exact Rd.at0 | exact Rd.at1 | exact Rd.at2 | exact Rd.at3 | exact Rd.at4)
local macro_rules | `(tactic| walk_at "own") => `(tactic| fail)
local macro_rules | `(tactic| walk_at "rd") => `(tactic| repeat (first
  | ((with_reducible apply Rd.var); exact rfl)
  | with_reducible apply Rd.cst
  | with_reducible apply Rd.notn
  | with_reducible apply Rd.isn
  | with_reducible apply Rd.op
  | with_reducible apply Rd.un
  | with_reducible apply Rd.i0
  | with_reducible apply Rd.u1
  | with_reducible apply Rd.eqI
  | with_reducible apply Rd.neI
  | with_reducible apply Rd.eqB
  | with_reducible apply Rd.eqS
  | with_reducible apply Rd.neS
  | with_reducible apply Rd.tst
  | with_reducible apply Rd.tB
  | with_reducible apply Rd.blk
  | with_reducible apply iteF
  | with_reducible apply iteT
  | with_reducible apply Rd.iteNt
  | with_reducible apply Rd.iteNf
  | with_reducible apply Rd.tnot
  | with_reducible apply Rd.tand
  | with_reducible apply Rd.tor
  | with_reducible apply Rd.andV
  | with_reducible apply Rd.orV
  | with_reducible apply Rd.notV
  | with_reducible apply Rd.ifE
  | with_reducible apply Rd.chain
  | with_reducible apply Rd.anil
  | with_reducible apply Rd.acons
  | with_reducible apply Rd.cbInt
  | with_reducible apply Rd.cbAbs
  | with_reducible apply Rd.cbMin
  | with_reducible apply Rd.cbMax
  | with_reducible apply Rd.cbLen
  | ((with_reducible apply Rd.lenL); (walk_at "sq"))
  | ((with_reducible apply Rd.lenT); (walk_at "sq"))
  | with_reducible apply Rd.min2
  | with_reducible apply Rd.max2
  | with_reducible apply Rd.cbTup
  | with_reducible apply Rd.cbLst
  | with_reducible apply Rd.cb
  | ((with_reducible apply Rd.ixL); (walk_at "sq"); (walk_at "at"))
  | ((with_reducible apply Rd.ixT); (walk_at "sq"); (walk_at "at"))
  | with_reducible apply Rd.call
  | with_reducible apply Rd.int1
  | with_reducible apply Rd.abs1
  | with_reducible apply Rd.lst
  | with_reducible apply Rd.tup
  | with_reducible apply Rd.dget
  | with_reducible apply Rd.dput
  | ((with_reducible apply Rd.dgetS); (walk_at "hp"); (walk_at "dg"))
  | ((with_reducible apply Rd.dputS); (walk_at "hp"); (walk_at "le"); (walk_at "dp"))
  | ((with_reducible apply Rd.i1); (walk_at "side"))
  | with_reducible apply Rd.seq
  | with_reducible apply Rd.nxt
  | with_reducible apply Rd.asg
  | walk_at "slot"
  | with_reducible apply Rd.ret
  | with_reducible apply Rd.retN
  | with_reducible apply Rd.ifS
  | with_reducible apply Rd.drop
  | with_reducible apply Rd.brk
  | with_reducible apply Rd.cnt
  | with_reducible apply Rd.pcons
  | with_reducible apply Rd.pnil
  | with_reducible apply Rd.lcl
  | with_reducible apply Rd.lct
  | with_reducible apply Rd.gname
  | with_reducible apply Rd.yes
  | ((with_reducible apply Rd.wip); (exact rfl))
  | with_reducible apply Rd.forl
  | with_reducible apply Rd.fort
  | with_reducible apply Rd.forr
  | with_reducible apply Rd.forr2
  | with_reducible apply Rd.sl
  | with_reducible apply Rd.part
  | with_reducible apply Rd.part1
  | with_reducible apply Rd.nopart
  | with_reducible apply Rd.lcr1
  | with_reducible apply Rd.asgT
  | ((with_reducible apply Rd.gtup); (walk_at "sq"); (exact rfl))
  | with_reducible apply Rd.gcons
  | with_reducible apply Rd.gnil
  | with_reducible apply Rd.gtupV
  | with_reducible apply Rd.dnotin
  | ((with_reducible apply Rd.dnI); (walk_at "hp"))
  | ((with_reducible apply Rd.dgetI); (walk_at "hp"); (with_reducible assumption))
  | with_reducible apply Rd.asgS
  | with_reducible apply Rd.bm
  | ((with_reducible apply Rd.bmL); (walk_at "hp"))
  | with_reducible apply Rd.neB
  | with_reducible apply Rd.notnN
  | with_reducible apply Rd.notnB
  | with_reducible apply Rd.notnI
  | with_reducible apply Rd.isnN
  | with_reducible apply Rd.isnI
  | walk_at "own"))
local macro_rules | `(tactic| walk_at "dec") => `(tactic| first
  | ((with_reducible apply Rd.iteP); (first | with_reducible assumption | exact rfl | decide | omega))
  | ((with_reducible apply Rd.iteM); (first | with_reducible assumption | exact rfl | decide | omega))
  | ((with_reducible apply Rd.iteNP); (first | with_reducible assumption | exact rfl | decide | omega))
  | ((with_reducible apply Rd.iteNM); (first | with_reducible assumption | exact rfl | decide | omega)))
local macro_rules | `(tactic| walk_at "go") => `(tactic| (walk_at "rd"; (repeat (walk_at "dec"; walk_at "rd"))))
/-- the numerator -/
def f (u : Int) : Int := u * (314928000000 - u * u)
def arch (u : Int) : Int := f u / 68024448000
def wave (x : Int) : Int :=
  let r := x % 1296000
  if r < 324000 then arch r
  else if r < 648000 then arch (648000 - r)
  else if r < 972000 then -arch (r - 648000)
  else -arch (1296000 - r)
/-- the exact numerator of a wave -/
def W (x : Int) : Int :=
  let r := x % 1296000
  if r < 324000 then f r
  else if r < 648000 then f (648000 - r)
  else if r < 972000 then -f (r - 648000)
  else -f (1296000 - r)
theorem f_step (u : Int) : f (u + 1) - f u = 314928000000 - (3 * (u * u) + 3 * u + 1) := by
  unfold f; grind
theorem sq_le {u q : Int} (h0 : 0 ≤ u) (h : u ≤ q) : u * u ≤ q * q := Int.mul_le_mul h h h0 (by omega)
theorem f_up {u : Int} (h0 : 0 ≤ u) (h : u < 324000) : 0 ≤ f (u + 1) - f u ∧ f (u + 1) - f u ≤ 314928000000 := by
  rw [f_step]
  have h1 : u * u ≤ 323999 * 323999 := sq_le h0 (by omega)
  have h2 : 0 ≤ u * u := Int.mul_nonneg h0 h0
  omega
theorem f_nn {u : Int} (h0 : 0 ≤ u) (h : u ≤ 324000) : 0 ≤ f u := by
  have h1 : u * u ≤ 324000 * 324000 := sq_le h0 h
  exact Int.mul_nonneg h0 (by omega)
theorem f_le {u : Int} (h0 : 0 ≤ u) (h : u ≤ 324000) : f u ≤ 68024448000 * 1000000 := by
  have h1 : 0 ≤ (324000 - u) * (324000 - u) := Int.mul_nonneg (by omega) (by omega)
  have h2 : 0 ≤ ((324000 - u) * (324000 - u)) * (648000 + u) := Int.mul_nonneg h1 (by omega)
  unfold f
  grind
theorem arch_nn {u : Int} (h0 : 0 ≤ u) (h : u ≤ 324000) : 0 ≤ arch u := Int.ediv_nonneg (f_nn h0 h) (by decide)
theorem arch_le {u : Int} (h0 : 0 ≤ u) (h : u ≤ 324000) : arch u ≤ 1000000 := by
  have := f_le h0 h
  unfold arch
  omega
theorem arch_up {u : Int} (h0 : 0 ≤ u) (h : u < 324000) : arch u ≤ arch (u + 1) := by
  have := (f_up h0 h).1
  unfold arch
  omega
theorem arch_due (u : Int) : 1000000 * u * (3 * 324000 * 324000 - u * u) / (2 * 324000 * 324000 * 324000) = arch u := by
  have e : 1000000 * u * (3 * 324000 * 324000 - u * u) = 1000000 * f u := by unfold f; grind
  rw [e]
  unfold arch
  omega
theorem arch0 : arch 0 = 0 := by decide
theorem archq : arch 324000 = 1000000 := by decide
theorem wave_W (x : Int) : (0 ≤ W x ∧ wave x = W x / 68024448000) ∨ (W x ≤ 0 ∧ wave x = -((-W x) / 68024448000)) := by
  unfold wave W
  have h0 : 0 ≤ x % 1296000 := Int.emod_nonneg _ (by decide)
  have h1 : x % 1296000 < 1296000 := Int.emod_lt_of_pos _ (by decide)
  generalize x % 1296000 = r at *
  dsimp only
  by_cases a : r < 324000
  · rw [if_pos a, if_pos a]; exact .inl ⟨f_nn h0 (by omega), rfl⟩
  · rw [if_neg a, if_neg a]
    by_cases b : r < 648000
    · rw [if_pos b, if_pos b]; exact .inl ⟨f_nn (by omega) (by omega), rfl⟩
    · rw [if_neg b, if_neg b]
      by_cases c : r < 972000
      · rw [if_pos c, if_pos c]
        have := f_nn (u := r - 648000) (by omega) (by omega)
        refine .inr ⟨by omega, ?_⟩
        rw [Int.neg_neg]; rfl
      · rw [if_neg c, if_neg c]
        have := f_nn (u := 1296000 - r) (by omega) (by omega)
        refine .inr ⟨by omega, ?_⟩
        rw [Int.neg_neg]; rfl
theorem W_step (x : Int) : W (x + 1) - W x ≤ 314928000000 ∧ W x - W (x + 1) ≤ 314928000000 := by
  unfold W
  have h0 : 0 ≤ x % 1296000 := Int.emod_nonneg _ (by decide)
  have h1 : x % 1296000 < 1296000 := Int.emod_lt_of_pos _ (by decide)
  have h2 : (x + 1) % 1296000 = if x % 1296000 = 1295999 then 0 else x % 1296000 + 1 := by split <;> omega
  rw [h2]
  generalize x % 1296000 = r at *
  clear h2 x
  dsimp only
  have q1 : f 324000 = f (648000 - 324000) := by decide
  have z : f 0 = 0 := by decide
  by_cases a : r < 324000
  · have s := f_up h0 a
    rw [if_neg (show ¬ r = 1295999 by omega), if_pos a]
    by_cases b : r + 1 < 324000
    · rw [if_pos b]; omega
    · have e : r = 323999 := by omega
      subst e
      decide
  · rw [if_neg a]
    by_cases b : r < 648000
    · have s := f_up (u := 648000 - r - 1) (by omega) (by omega)
      rw [show 648000 - r - 1 + 1 = 648000 - r by omega] at s
      rw [if_neg (show ¬ r = 1295999 by omega), if_pos b, if_neg (show ¬ r + 1 < 324000 by omega)]
      by_cases c : r + 1 < 648000
      · rw [if_pos c, show 648000 - (r + 1) = 648000 - r - 1 by omega]; omega
      · have e : r = 647999 := by omega
        subst e
        decide
    · rw [if_neg b]
      by_cases c : r < 972000
      · have s := f_up (u := r - 648000) (by omega) (by omega)
        rw [show r - 648000 + 1 = r + 1 - 648000 by omega] at s
        rw [if_neg (show ¬ r = 1295999 by omega), if_pos c, if_neg (show ¬ r + 1 < 324000 by omega), if_neg (show ¬ r + 1 < 648000 by omega)]
        by_cases d : r + 1 < 972000
        · rw [if_pos d]; omega
        · have e : r = 971999 := by omega
          subst e
          decide
      · have s := f_up (u := 1296000 - r - 1) (by omega) (by omega)
        rw [show 1296000 - r - 1 + 1 = 1296000 - r by omega] at s
        rw [if_neg c]
        by_cases d : r = 1295999
        · subst d; decide
        · rw [if_neg d, if_neg (show ¬ r + 1 < 324000 by omega), if_neg (show ¬ r + 1 < 648000 by omega), if_neg (show ¬ r + 1 < 972000 by omega), show 1296000 - (r + 1) = 1296000 - r - 1 by omega]
          omega
theorem W_far (x : Int) : ∀ n : Nat, W (x + n) - W x ≤ 314928000000 * n ∧ W x - W (x + n) ≤ 314928000000 * n
  | 0 => by simp
  | n + 1 => by
    have h := W_far x n
    have s := W_step (x + n)
    have e : x + ((n + 1 : Nat) : Int) = x + n + 1 := by omega
    rw [e]
    omega
theorem W_lip (x y : Int) : W x - W y ≤ 314928000000 * (if x - y < 0 then -(x - y) else x - y) := by
  by_cases h : x - y < 0
  · rw [if_pos h]
    have a := (W_far x (y - x).toNat).2
    have e : ((y - x).toNat : Int) = y - x := by omega
    rw [e, show x + (y - x) = y by omega] at a
    omega
  · rw [if_neg h]
    have a := (W_far y (x - y).toNat).1
    have e : ((x - y).toNat : Int) = x - y := by omega
    rw [e, show y + (x - y) = x by omega] at a
    omega
theorem wave_lip (x y : Int) : wave x - wave y ≤ 125 * (if x - y < 0 then -(x - y) else x - y) / 27 + 1 := by
  have h := W_lip x y
  have hd : 0 ≤ (if x - y < 0 then -(x - y) else x - y) := by split <;> omega
  generalize (if x - y < 0 then -(x - y) else x - y) = d at *
  rcases wave_W x with ⟨a, e⟩ | ⟨a, e⟩ <;> rcases wave_W y with ⟨b, g⟩ | ⟨b, g⟩ <;> rw [e, g] <;> omega
theorem wave_most (x : Int) : -1000000 ≤ wave x ∧ wave x ≤ 1000000 := by
  unfold wave
  have h0 : 0 ≤ x % 1296000 := Int.emod_nonneg _ (by decide)
  have h1 : x % 1296000 < 1296000 := Int.emod_lt_of_pos _ (by decide)
  generalize x % 1296000 = r at *
  dsimp only
  by_cases a : r < 324000
  · rw [if_pos a]
    have := arch_nn h0 (by omega); have := arch_le h0 (by omega); omega
  · rw [if_neg a]
    by_cases b : r < 648000
    · rw [if_pos b]
      have := arch_nn (u := 648000 - r) (by omega) (by omega); have := arch_le (u := 648000 - r) (by omega) (by omega); omega
    · rw [if_neg b]
      by_cases c : r < 972000
      · rw [if_pos c]
        have := arch_nn (u := r - 648000) (by omega) (by omega); have := arch_le (u := r - 648000) (by omega) (by omega); omega
      · rw [if_neg c]
        have := arch_nn (u := 1296000 - r) (by omega) (by omega); have := arch_le (u := 1296000 - r) (by omega) (by omega); omega
theorem wave_turn (x : Int) : wave (x + 1296000) = wave x := by
  unfold wave
  rw [Int.add_emod_right]
theorem wave_half (x : Int) : wave (x + 648000) = -wave x := by
  unfold wave
  have h0 : 0 ≤ x % 1296000 := Int.emod_nonneg _ (by decide)
  have h1 : x % 1296000 < 1296000 := Int.emod_lt_of_pos _ (by decide)
  have h2 : (x + 648000) % 1296000 = if x % 1296000 < 648000 then x % 1296000 + 648000 else x % 1296000 - 648000 := by split <;> omega
  rw [h2]
  generalize x % 1296000 = r at *
  clear h2 x
  dsimp only
  by_cases a : r < 324000
  · rw [if_pos (show r < 648000 by omega), if_neg (show ¬ r + 648000 < 324000 by omega), if_neg (show ¬ r + 648000 < 648000 by omega), if_pos (show r + 648000 < 972000 by omega), if_pos a]
    rw [show r + 648000 - 648000 = r by omega]
  · by_cases b : r < 648000
    · rw [if_pos b, if_neg (show ¬ r + 648000 < 324000 by omega), if_neg (show ¬ r + 648000 < 648000 by omega), if_neg (show ¬ r + 648000 < 972000 by omega), if_neg a, if_pos b]
      rw [show 1296000 - (r + 648000) = 648000 - r by omega]
    · rw [if_neg b]
      by_cases c : r < 972000
      · rw [if_pos (show r - 648000 < 324000 by omega), if_neg a, if_neg b, if_pos c, Int.neg_neg]
      · rw [if_neg (show ¬ r - 648000 < 324000 by omega), if_pos (show r - 648000 < 648000 by omega), if_neg a, if_neg b, if_neg c, Int.neg_neg]
        rw [show 648000 - (r - 648000) = 1296000 - r by omega]
theorem wave_neg (x : Int) : wave (-x) = -wave x := by
  unfold wave
  have h0 : 0 ≤ x % 1296000 := Int.emod_nonneg _ (by decide)
  have h1 : x % 1296000 < 1296000 := Int.emod_lt_of_pos _ (by decide)
  have h2 : (-x) % 1296000 = if x % 1296000 = 0 then 0 else 1296000 - x % 1296000 := by split <;> omega
  rw [h2]
  generalize x % 1296000 = r at *
  clear h2 x
  dsimp only
  by_cases z : r = 0
  · subst z; decide
  rw [if_neg z]
  by_cases a : r < 324000
  · rw [if_neg (show ¬ 1296000 - r < 324000 by omega), if_neg (show ¬ 1296000 - r < 648000 by omega), if_neg (show ¬ 1296000 - r < 972000 by omega), if_pos a]
    rw [show 1296000 - (1296000 - r) = r by omega]
  · rw [if_neg a]
    by_cases b : r < 648000
    · rw [if_neg (show ¬ 1296000 - r < 324000 by omega), if_neg (show ¬ 1296000 - r < 648000 by omega), if_pos b]
      by_cases b' : r = 324000
      · subst b'; decide
      · rw [if_pos (show 1296000 - r < 972000 by omega), show 1296000 - r - 648000 = 648000 - r by omega]
    · rw [if_neg b]
      by_cases c : r < 972000
      · by_cases c' : r = 648000
        · subst c'; decide
        · rw [if_pos c, if_neg (show ¬ 1296000 - r < 324000 by omega), if_pos (show 1296000 - r < 648000 by omega), Int.neg_neg, show 648000 - (1296000 - r) = r - 648000 by omega]
      · rw [if_neg c]
        by_cases c' : r = 972000
        · subst c'; decide
        · rw [if_pos (show 1296000 - r < 324000 by omega), Int.neg_neg]
/-- the law's own wave -/
def lw (x : Int) : Int :=
  if x % 1296000 ≥ 648000 then -arch (if 1296000 - x % 1296000 < x % 1296000 - 648000 then 1296000 - x % 1296000 else x % 1296000 - 648000)
  else arch (if 648000 - x % 1296000 < x % 1296000 then 648000 - x % 1296000 else x % 1296000)
theorem lw_wave (x : Int) : lw x = wave x := by
  unfold wave lw
  have h0 : 0 ≤ x % 1296000 := Int.emod_nonneg _ (by decide)
  have h1 : x % 1296000 < 1296000 := Int.emod_lt_of_pos _ (by decide)
  generalize x % 1296000 = r at *
  clear x
  dsimp only
  by_cases a : r < 324000
  · rw [if_pos a, if_neg (show ¬ r ≥ 648000 by omega), if_neg (show ¬ 648000 - r < r by omega)]
  · rw [if_neg a]
    by_cases b : r < 648000
    · rw [if_pos b, if_neg (show ¬ r ≥ 648000 by omega)]
      by_cases e : r = 324000
      · subst e; decide
      · rw [if_pos (show 648000 - r < r by omega)]
    · rw [if_neg b, if_pos (show r ≥ 648000 by omega)]
      by_cases c : r < 972000
      · rw [if_pos c, if_neg (show ¬ 1296000 - r < r - 648000 by omega)]
      · rw [if_neg c]
        by_cases e : r = 972000
        · subst e; decide
        · rw [if_pos (show 1296000 - r < r - 648000 by omega)]


section
open Rd
variable {P : Program} {w : World} {K : PySem.W.Frag} {mg : Str → Option Value} {base : Heap}
def spWave : Sp := fun vs H Q _ => ∃ x : Int, vs = [.int x] ∧ Q (.int (wave x)) H
theorem wave_go {H : Hp} {x : Int} {Q : VK} {E : XK} (q : Q (.int (wave x)) H) : CALL spWave [.int x] H Q E := ⟨x, rfl, q⟩
end


section
open Rd
variable {P : Program} {w : World} {K : PySem.W.Frag} {mg : Str → Option Value} {base : Heap}
def spArch : Sp := fun vs H Q _ => ∃ u : Int, vs = [.int u] ∧ -18446744073709551616 < u ∧ u < 18446744073709551616 ∧ Q (.int (arch u)) H
set_option maxHeartbeats 4000000 in
theorem ok_arch (T : Txt K mg) : ∃ (f : Addr) (fd : FuncData), FnOk P w K mg base CX0 1 f fd ["u"] spArch ∧ mg "arch" = some (.ref f) ∧ PySem.W.keepIn K (.ref f) = true ∧ L2.Binds K fd ["u"] [] := by
  obtain ⟨f, fd, F, g, bi⟩ := T.d_arch
  obtain ⟨_, cARCH_TOP⟩ := T.c_ARCH_TOP
  obtain ⟨_, cARCH_SCALE⟩ := T.c_ARCH_SCALE
  refine ⟨f, fd, ?_, g, F.kp, bi⟩
  refine F.ok sc_arch (fun vs H Q E h => ?_) (fun cdv A outer s H vs Q E hr h => ?_)
  · obtain ⟨u, rfl, _⟩ := h; rfl
  · obtain ⟨u, rfl, h0, h1, q⟩ := h
    refine ⟨_, (pss_one (ps_ret (pe_op op_fdivW (pe_op op_mul (pv 0) (pe_op op_sub (pe_glob (v := .int (314928000000)) rfl cARCH_TOP ⟨_, rfl⟩) (pe_op op_mul (pv 0) (pv 0)))) (pe_glob (v := .int (68024448000)) rfl cARCH_SCALE ⟨_, rfl⟩)))), ?_⟩
    refine Rd.start (σ' := [some (.int u)]) rfl ?_
    try dsimp only [cxOf, Cx.nox, Cx.wish]
    walk_at "go"
    exact q
theorem arch_go {H : Hp} {u : Int} {Q : VK} {E : XK} (h0 : -18446744073709551616 < u) (h1 : u < 18446744073709551616) (q : Q (.int (arch u)) H) : CALL spArch [.int u] H Q E := ⟨u, rfl, h0, h1, q⟩
set_option maxHeartbeats 4000000 in
theorem ok_wave (T : Txt K mg) : ∃ (f : Addr) (fd : FuncData), FnOk P w K mg base CX0 2 f fd ["x"] spWave ∧ mg "wave" = some (.ref f) ∧ PySem.W.keepIn K (.ref f) = true ∧ L2.Binds K fd ["x"] [] := by
  obtain ⟨f, fd, F, g, bi⟩ := T.d_wave
  obtain ⟨_, cTURN⟩ := T.c_TURN
  obtain ⟨_, cQUARTER⟩ := T.c_QUARTER
  obtain ⟨_, cHALF_TURN⟩ := T.c_HALF_TURN
  obtain ⟨f_arch, fd_arch, G_arch, g_arch, kp_arch, b_arch⟩ := ok_arch (P := P) (w := w) (base := base) T
  refine ⟨f, fd, ?_, g, F.kp, bi⟩
  refine F.ok sc_wave (fun vs H Q E h => ?_) (fun cdv A outer s H vs Q E hr h => ?_)
  · obtain ⟨x, rfl, _⟩ := h; rfl
  · obtain ⟨x, rfl, q⟩ := h
    refine ⟨_, (pss_cons (ps_set (i := 1) sc_wave.nd rfl (by first | exact Or.inl rfl | exact Or.inr rfl) (pe_op op_mod (pv 0) (pe_glob (v := .int (1296000)) rfl cTURN ⟨_, rfl⟩)))
      (pss_cons (ps_if (pt_cmpR op_lt (pv 1) (pe_glob (v := .int (324000)) rfl cQUARTER ⟨_, rfl⟩) (nomark _)) (pss_one (ps_ret (pe_call G_arch (hr.mono (by omega)) (by rfl) g_arch kp_arch b_arch .nil pass0 (pa_cons (pv 1) pa_nil)))) pss_nil)
      (pss_cons (ps_if (pt_cmpR op_lt (pv 1) (pe_glob (v := .int (648000)) rfl cHALF_TURN ⟨_, rfl⟩) (nomark _)) (pss_one (ps_ret (pe_call G_arch (hr.mono (by omega)) (by rfl) g_arch kp_arch b_arch .nil pass0 (pa_cons (pe_op op_sub (pe_glob (v := .int (648000)) rfl cHALF_TURN ⟨_, rfl⟩) (pv 1)) pa_nil)))) pss_nil)
      (pss_cons (ps_if (pt_cmpR op_lt (pv 1) (pe_op op_add (pe_glob (v := .int (648000)) rfl cHALF_TURN ⟨_, rfl⟩) (pe_glob (v := .int (324000)) rfl cQUARTER ⟨_, rfl⟩)) (nomark _)) (pss_one (ps_ret (pe_un un_neg (pe_call G_arch (hr.mono (by omega)) (by rfl) g_arch kp_arch b_arch .nil pass0 (pa_cons (pe_op op_sub (pv 1) (pe_glob (v := .int (648000)) rfl cHALF_TURN ⟨_, rfl⟩)) pa_nil))))) pss_nil)
      (pss_one (ps_ret (pe_un un_neg (pe_call G_arch (hr.mono (by omega)) (by rfl) g_arch kp_arch b_arch .nil pass0 (pa_cons (pe_op op_sub (pe_glob (v := .int (1296000)) rfl cTURN ⟨_, rfl⟩) (pv 1)) pa_nil))))))))), ?_⟩
    refine Rd.start (σ' := [some (.int x), none]) rfl ?_
    try dsimp only [cxOf, Cx.nox, Cx.wish]
    have h0 : 0 ≤ x % 1296000 := Int.emod_nonneg _ (by decide)
    have h1 : x % 1296000 < 1296000 := Int.emod_lt_of_pos _ (by decide)
    unfold wave at q
    dsimp only at q
    by_cases a : x % 1296000 < 324000
    · rw [if_pos a] at q
      walk_at "go"
      refine arch_go (by omega) (by omega) ?_
      exact q
    · rw [if_neg a] at q
      by_cases b : x % 1296000 < 648000
      · rw [if_pos b] at q
        walk_at "go"
        refine arch_go (by omega) (by omega) ?_
        exact q
      · rw [if_neg b] at q
        by_cases c : x % 1296000 < 972000
        · rw [if_pos c] at q
          walk_at "go"
          refine arch_go (by omega) (by omega) ?_
          walk_at "go"
          exact q
        · rw [if_neg c] at q
          walk_at "go"
          refine arch_go (by omega) (by omega) ?_
          walk_at "go"
          exact q
end

/-! ### tuples stay -/
def TupSub (H H' : Hp) : Prop := ∀ p xs, H p = some (.tup xs) → H' p = some (.tup xs)
theorem TupSub.same {H H' : Hp} (s : Same H H') : TupSub H H' := fun p _ h => s p _ h
/-- what may be read as a tuple stays so -/
def TupK (H H' : Hp) : Prop := ∀ p xs, L2.Rd H p (.tup xs) → L2.Rd H' p (.tup xs)
theorem TupK.same {H H' : Hp} (s : Same H H') : TupK H H' := fun p xs h => by
  rcases h with h | ⟨o, h⟩
  · exact .inl (s _ _ h)
  · exact .inr ⟨o, s _ _ h⟩
theorem TupK.trans {H H1 H2 : Hp} (s : TupK H H1) (t : TupK H1 H2) : TupK H H2 := fun p xs h => t p xs (s p xs h)
theorem SqT.up {K : PySem.W.Frag} {H H' : Hp} {p : Addr} {xs : List V} (s : TupK H H') (h : SqT K H p xs) : SqT K H' p xs := by
  rcases h with h | h
  · exact .inl (s _ _ h)
  · exact .inr h
theorem TupK.two {H H' : Hp} {a b : Addr} {oa ob : HO} (ha : H a = some oa) (hb : H b = some ob) (na : ∀ u, oa ≠ .tup u) (nb : ∀ u, ob ≠ .tup u) (fa : ∀ o u, oa ≠ .frz o u) (fb : ∀ o u, ob ≠ .frz o u) (s : ∀ c o, c ≠ a → c ≠ b → H c = some o → H' c = some o) : TupK H H' := fun c zs h => by
  rcases h with h | ⟨o, h⟩
  · exact .inl (s c _ (by rintro rfl; rw [ha] at h; exact na _ (Option.some.inj h)) (by rintro rfl; rw [hb] at h; exact nb _ (Option.some.inj h)) h)
  · exact .inr ⟨o, s c _ (by rintro rfl; rw [ha] at h; exact fa _ _ (Option.some.inj h)) (by rintro rfl; rw [hb] at h; exact fb _ _ (Option.some.inj h)) h⟩

/-! ### what an expression means -/
structure Den where
  val : Int → Int
  most : Int
  far : Int → Int
  size : Nat
def rup (n d : Int) : Int := -(-n / d)
def ab (i : Int) : Int := if i < 0 then -i else i
def cap (top far : Int) : Int := if 2 * top < far then 2 * top else far
def wfar (d : Int) : Int := if d = 0 then 0 else 125 * d / 27 + 1
def dTurn (s i d : Int) : Den := ⟨fun t => s + i * t / d, 0, fun k => rup (ab i * k) d, 1⟩
def dMoved (a v : Den) : Den := ⟨fun t => a.val t + v.val t, 0, fun k => a.far k + v.far k, a.size + v.size + 1⟩
def dMinus (a b : Den) : Den := ⟨fun t => a.val t - b.val t, 0, fun k => a.far k + b.far k, a.size + b.size + 1⟩
def dNum (i : Int) : Den := ⟨fun _ => i, ab i, fun _ => cap (ab i) 0, 1⟩
def dWave (a : Den) : Den := ⟨fun t => wave (a.val t), 1000000, fun k => cap 1000000 (wfar (a.far k)), a.size + 1⟩
def dSum (vs : List Den) : Den := ⟨fun t => (vs.map fun v => v.val t).sum, (vs.map fun v => v.most).sum, fun k => cap (vs.map fun v => v.most).sum (vs.map fun v => v.far k).sum, (vs.map fun v => v.size).sum + 1⟩
def dShare (v : Den) (i d : Int) : Den := ⟨fun t => v.val t * i / d, rup (v.most * ab i) d, fun k => cap (rup (v.most * ab i) d) (rup (v.far k * ab i) d), v.size + 1⟩
def dProd (v w : Den) (d : Int) : Den := ⟨fun t => v.val t * w.val t / d, rup (v.most * w.most) d, fun k => cap (rup (v.most * w.most) d) (rup (v.most * w.far k + w.most * v.far k) d), v.size + w.size + 1⟩
def dLater (v : Den) (i : Int) : Den := ⟨fun t => v.val (t + i), v.most, v.far, v.size⟩
def Lim (i : Int) : Prop := -1000000000000 ≤ i ∧ i ≤ 1000000000000
def Dv (d : Int) : Prop := 1 ≤ d ∧ d ≤ 1000000000000
def bmE : Nat := 400000
def BM : Int := 2 ^ bmE
/-- the value v is, in the heap H, an expression at most n deep (true: a quantity, false: an angle) with the meaning D -/
inductive Ex (K : PySem.W.Frag) (H : Hp) : Nat → Bool → V → Den → Prop
  | qnum {n p i} (h : SqT K H p [.str "number", .int i]) (l : Lim i) : Ex K H (n + 1) true (.ref p) (dNum i)
  | qwave {n p b g} (h : SqT K H p [.str "wave", b]) (l : Ex K H n false b g) : Ex K H (n + 1) true (.ref p) (dWave g)
  | qsum {n p xs gs} (h : SqT K H p (.str "sum" :: xs)) (e : xs.length = gs.length) (l0 : 0 < xs.length) (l1 : xs.length ≤ 1000) (l : ∀ (i : Nat) x g, xs[i]? = some x → gs[i]? = some g → Ex K H n true x g) : Ex K H (n + 1) true (.ref p) (dSum gs)
  | qshare {n p b g i d} (h : SqT K H p [.str "share", b, .int i, .int d]) (l : Ex K H n true b g) (li : Lim i) (ld : Dv d) : Ex K H (n + 1) true (.ref p) (dShare g i d)
  | qprod {n p b c g f d} (h : SqT K H p [.str "product", b, c, .int d]) (l : Ex K H n true b g) (l2 : Ex K H n true c f) (ld : Dv d) (hb : g.most ≤ BM ∧ f.most ≤ BM) : Ex K H (n + 1) true (.ref p) (dProd g f d)
  | qlater {n p b g i} (h : SqT K H p [.str "later", b, .int i]) (l : Ex K H n true b g) (li : Lim i) : Ex K H (n + 1) true (.ref p) (dLater g i)
  | aturn {n p s i d} (h : SqT K H p [.str "turning", .int s, .int i, .int d]) (ls : Lim s) (li : Lim i) (ld : Dv d) : Ex K H (n + 1) false (.ref p) (dTurn s i d)
  | amoved {n p b c g f} (h : SqT K H p [.str "moved", b, c]) (l : Ex K H n false b g) (l2 : Ex K H n true c f) : Ex K H (n + 1) false (.ref p) (dMoved g f)
  | aminus {n p b c g f} (h : SqT K H p [.str "minus", b, c]) (l : Ex K H n false b g) (l2 : Ex K H n false c f) : Ex K H (n + 1) false (.ref p) (dMinus g f)
theorem Ex.sub {K : PySem.W.Frag} {H H' : Hp} (s : TupK H H') {n : Nat} {k : Bool} {v : V} {D : Den} (h : Ex K H n k v D) : Ex K H' n k v D := by
  induction h with
  | qnum h l => exact .qnum (SqT.up s h) l
  | qwave h l ih => exact .qwave (SqT.up s h) ih
  | qsum h e l0 l1 l ih => exact .qsum (SqT.up s h) e l0 l1 ih
  | qshare h l li ld ih => exact .qshare (SqT.up s h) ih li ld
  | qprod h l l2 ld hb ih ih2 => exact .qprod (SqT.up s h) ih ih2 ld hb
  | qlater h l li ih => exact .qlater (SqT.up s h) ih li
  | aturn h ls li ld => exact .aturn (SqT.up s h) ls li ld
  | amoved h l l2 ih ih2 => exact .amoved (SqT.up s h) ih ih2
  | aminus h l l2 ih ih2 => exact .aminus (SqT.up s h) ih ih2
theorem Ex.up {K : PySem.W.Frag} {H : Hp} {n : Nat} {k : Bool} {v : V} {D : Den} (h : Ex K H n k v D) : Ex K H (n + 1) k v D := by
  induction h with
  | qnum h l => exact .qnum h l
  | qwave h l ih => exact .qwave h ih
  | qsum h e l0 l1 l ih => exact .qsum h e l0 l1 ih
  | qshare h l li ld ih => exact .qshare h ih li ld
  | qprod h l l2 ld hb ih ih2 => exact .qprod h ih ih2 ld hb
  | qlater h l li ih => exact .qlater h ih li
  | aturn h ls li ld => exact .aturn h ls li ld
  | amoved h l l2 ih ih2 => exact .amoved h ih ih2
  | aminus h l l2 ih ih2 => exact .aminus h ih ih2
/-! sizes -/
def bits : Nat → Nat
  | 0 => 0
  | n + 1 => 2 * bits n + 84
theorem two_bits (n : Nat) : (1 : Int) ≤ 2 ^ bits n := by
  have : 0 < (2 : Nat) ^ bits n := Nat.pow_pos (by decide)
  have e : ((2 ^ bits n : Nat) : Int) = (2 : Int) ^ bits n := by rw [Int.natCast_pow]; rfl
  omega
theorem ediv_size {a d : Int} (h : 1 ≤ d) {B : Int} (hB : 0 ≤ B) (h1 : -B ≤ a) (h2 : a ≤ B) : -B ≤ a / d ∧ a / d ≤ B := by
  constructor
  · have : -B ≤ a / d ↔ -B * d ≤ a := Int.le_ediv_iff_mul_le (by omega)
    rw [this]
    have : B * 1 ≤ B * d := Int.mul_le_mul_of_nonneg_left h hB
    rw [Int.neg_mul]
    omega
  · by_cases ha : 0 ≤ a
    · exact Int.le_trans (Int.ediv_le_self _ ha) h2
    · have : a / d < 0 := Int.ediv_neg_of_neg_of_pos (by omega) (by omega)
      omega
theorem mul_size {a b A B : Int} (h1 : -A ≤ a) (h2 : a ≤ A) (h3 : -B ≤ b) (h4 : b ≤ B) : -(A * B) ≤ a * b ∧ a * b ≤ A * B := by
  have hA : 0 ≤ A := by omega
  have hB : 0 ≤ B := by omega
  have e : (a * b).natAbs ≤ (A * B).natAbs := by
    rw [Int.natAbs_mul, Int.natAbs_mul]
    exact Nat.mul_le_mul (by omega) (by omega)
  have e2 : ((A * B).natAbs : Int) = A * B := Int.natAbs_of_nonneg (Int.mul_nonneg hA hB)
  omega
theorem bits_up (n : Nat) : (2 : Int) ^ bits (n + 1) = 2 ^ bits n * 2 ^ bits n * 19342813113834066795298816 := by
  show (2 : Int) ^ (2 * bits n + 84) = _
  rw [Int.pow_add, show 2 * bits n = bits n + bits n by omega, Int.pow_add]
  rfl
theorem bits_le {n : Nat} {z c : Int} (hc : 0 ≤ c) (hc2 : c ≤ 19342813113834066795298816) (h1 : -(2 ^ bits n * c) ≤ z) (h2 : z ≤ 2 ^ bits n * c) : -(2 ^ bits (n + 1)) ≤ z ∧ z ≤ 2 ^ bits (n + 1) := by
  rw [bits_up]
  have b := two_bits n
  have h3 : 2 ^ bits n * c ≤ 2 ^ bits n * 19342813113834066795298816 := Int.mul_le_mul_of_nonneg_left hc2 (by omega)
  have h4 : (2 : Int) ^ bits n * 1 ≤ 2 ^ bits n * 2 ^ bits n := Int.mul_le_mul_of_nonneg_left b (by omega)
  have h5 : 2 ^ bits n * 19342813113834066795298816 ≤ 2 ^ bits n * 2 ^ bits n * (19342813113834066795298816 : Int) := Int.mul_le_mul_of_nonneg_right (by omega) (by decide)
  omega
theorem pow2_nat (k : Nat) : (2 : Nat) ^ (k + 1) = 2 * 2 ^ k ∧ (2 : Nat) ^ (k + 2) = 4 * 2 ^ k ∧ 0 < (2 : Nat) ^ k ∧ ((2 ^ k : Nat) : Int) = (2 : Int) ^ k := by
  refine ⟨?_, ?_, Nat.pow_pos (by decide), ?_⟩
  · rw [Nat.pow_add]; exact Nat.mul_comm _ _
  · rw [Nat.pow_add]; exact Nat.mul_comm _ _
  · rw [Int.natCast_pow]; rfl
theorem mulB {a b : Int} (h1 : -(2 * BM) ≤ a) (h2 : a ≤ 2 * BM) (h3 : -(2 * BM) ≤ b) (h4 : b ≤ 2 * BM) : CMulW a b := by
  obtain ⟨_, p, z, e⟩ := pow2_nat bmE
  have l : bmE = 400000 := rfl
  unfold BM at h1 h2 h3 h4
  rw [← e] at h1 h2 h3 h4
  refine wide_mul (a := bmE + 2) (b := bmE + 2) ?_ ?_ (by omega) (by omega) (by omega)
  · rw [p]
    clear l e p
    generalize (2 : Nat) ^ bmE = x at *
    omega
  · rw [p]
    clear l e p
    generalize (2 : Nat) ^ bmE = x at *
    omega
theorem BM_pos : 0 < BM := by
  obtain ⟨_, p, z, e⟩ := pow2_nat bmE
  unfold BM
  rw [← e]
  clear e p
  generalize (2 : Nat) ^ bmE = x at *
  omega
theorem BM_nat {x : Int} (h1 : -BM ≤ x) (h2 : x ≤ BM) : x.natAbs < 2 ^ 400001 := by
  obtain ⟨p, _, z, e⟩ := pow2_nat bmE
  unfold BM at h1 h2
  rw [← e] at h1 h2
  show x.natAbs < 2 ^ (bmE + 1)
  rw [p]
  clear e p
  generalize (2 : Nat) ^ bmE = y at *
  omega
theorem le_BM {k : Nat} {x : Int} (hk : k ≤ 400000) (h : x ≤ 2 ^ k) : x ≤ BM := by
  obtain ⟨_, _, _, e1⟩ := pow2_nat k
  obtain ⟨_, _, _, e2⟩ := pow2_nat bmE
  have l : (2 : Nat) ^ k ≤ 2 ^ bmE := Nat.pow_le_pow_right (by decide) hk
  unfold BM
  rw [← e2]
  rw [← e1] at h
  clear e1 e2
  generalize (2 : Nat) ^ bmE = y at *
  generalize (2 : Nat) ^ k = z at *
  omega

section
open Rd
variable {P : Program} {w : World} {K : PySem.W.Frag} {mg : Str → Option Value} {base : Heap}
def spVal (K : PySem.W.Frag) (n : Nat) (k : Bool) : Sp := fun vs H Q _ => ∃ (v : V) (t : Int) (D : Den), vs = [v, .int t] ∧ Ex K H n k v D ∧ n ≤ 20 ∧ ∀ H', Same H H' → Q (.int (D.val t)) H'
theorem val_go {H : Hp} {n : Nat} {k : Bool} {v : V} {t : Int} {D : Den} {Q : VK} {E : XK} (h : Ex K H n k v D) (hn : n ≤ 20) (q : ∀ H', Same H H' → Q (.int (D.val t)) H') : CALL (spVal K n k) [v, .int t] H Q E := ⟨v, t, D, rfl, h, hn, q⟩
end

/-! ### the reach: signs, growth, soundness -/
theorem ab_nn (i : Int) : 0 ≤ ab i := by unfold ab; split <;> omega
theorem ab_bd (i : Int) : -ab i ≤ i ∧ i ≤ ab i := by unfold ab; split <;> omega
theorem ab_le {i B : Int} (h1 : -B ≤ i) (h2 : i ≤ B) : ab i ≤ B := by unfold ab; split <;> omega
theorem rup_lo {n d : Int} (h : 1 ≤ d) : n ≤ rup n d * d := by
  unfold rup
  have := Int.ediv_mul_le (-n) (b := d) (by omega)
  rw [Int.neg_mul]
  omega
theorem rup_hi {n d : Int} (h : 1 ≤ d) : rup n d * d < n + d := by
  unfold rup
  have := Int.lt_ediv_add_one_mul_self (-n) (b := d) (by omega)
  rw [Int.add_mul, Int.one_mul] at this
  rw [Int.neg_mul]
  omega
theorem rup_mono {n m d : Int} (h : 1 ≤ d) (hn : n ≤ m) : rup n d ≤ rup m d := by
  unfold rup
  have := Int.ediv_le_ediv (a := -m) (b := -n) (c := d) (by omega) (by omega)
  omega
theorem rup_zero (d : Int) : rup 0 d = 0 := by unfold rup; simp
theorem rup_nn {n d : Int} (h : 1 ≤ d) (hn : 0 ≤ n) : 0 ≤ rup n d := by
  have := rup_mono h hn
  rw [rup_zero] at this
  exact this
theorem rup_self {n d : Int} (h : 1 ≤ d) (hn : 0 ≤ n) : rup n d ≤ n := by
  unfold rup
  have h1 := ediv_size h (B := n) (a := -n) hn (by omega) (by omega)
  omega
theorem rup_up {n d : Int} (h : 1 ≤ d) : (n + d - 1) / d = rup n d := by
  have h1 := Int.ediv_mul_le (n + d - 1) (b := d) (by omega)
  have h2 := Int.lt_ediv_add_one_mul_self (n + d - 1) (b := d) (by omega)
  have h3 := rup_lo (n := n) h
  have h4 := rup_hi (n := n) h
  generalize (n + d - 1) / d = x at *
  generalize rup n d = y at *
  have a : x * d < (y + 1) * d := by rw [Int.add_mul, Int.one_mul]; omega
  have b : y * d < (x + 1) * d := by rw [Int.add_mul, Int.one_mul] at h2 ⊢; omega
  have a' := Int.lt_of_mul_lt_mul_right a (by omega)
  have b' := Int.lt_of_mul_lt_mul_right b (by omega)
  omega
/-- a quotient's size -/
theorem div_bd {a B d : Int} (h : 1 ≤ d) (h1 : -B ≤ a) (h2 : a ≤ B) : -rup B d ≤ a / d ∧ a / d ≤ rup B d := by
  have e1 := Int.ediv_mul_le a (b := d) (by omega)
  have e2 := Int.lt_ediv_add_one_mul_self a (b := d) (by omega)
  have r1 := rup_lo (n := B) h
  generalize a / d = x at *
  generalize rup B d = r at *
  rw [Int.add_mul, Int.one_mul] at e2
  constructor
  · have : (-r) * d < (x + 1) * d := by rw [Int.add_mul, Int.one_mul, Int.neg_mul]; omega
    have := Int.lt_of_mul_lt_mul_right this (by omega)
    omega
  · have : x * d < (r + 1) * d := by rw [Int.add_mul, Int.one_mul]; omega
    have := Int.lt_of_mul_lt_mul_right this (by omega)
    omega
/-- the difference of two quotients -/
theorem div_diff {a b B d : Int} (h : 1 ≤ d) (h1 : a - b ≤ B) : a / d - b / d ≤ rup B d := by
  have e1 := Int.ediv_mul_le a (b := d) (by omega)
  have f2 := Int.lt_ediv_add_one_mul_self b (b := d) (by omega)
  have r1 := rup_lo (n := B) h
  generalize a / d = x at *
  generalize b / d = y at *
  generalize rup B d = r at *
  rw [Int.add_mul, Int.one_mul] at f2
  have : (x - y) * d < (r + 1) * d := by rw [Int.add_mul, Int.one_mul, Int.sub_mul]; omega
  have := Int.lt_of_mul_lt_mul_right this (by omega)
  omega
theorem cap_le (top far : Int) : cap top far ≤ far ∧ cap top far ≤ 2 * top := by unfold cap; split <;> omega
theorem cap_nn {top far : Int} (h : 0 ≤ top) (h2 : 0 ≤ far) : 0 ≤ cap top far := by unfold cap; split <;> omega
theorem cap_mono {top a b : Int} (h : a ≤ b) : cap top a ≤ cap top b := by unfold cap; split <;> split <;> omega
theorem cap_zero {top : Int} (h : 0 ≤ top) : cap top 0 = 0 := by unfold cap; split <;> omega
theorem cap_bd {top far z : Int} (h1 : -far ≤ z ∧ z ≤ far) (h2 : -(2 * top) ≤ z ∧ z ≤ 2 * top) : -cap top far ≤ z ∧ z ≤ cap top far := by unfold cap; split <;> omega
theorem wfar_nn {d : Int} (h : 0 ≤ d) : 0 ≤ wfar d := by unfold wfar; split <;> omega
theorem wfar_mono {a b : Int} (h0 : 0 ≤ a) (h : a ≤ b) : wfar a ≤ wfar b := by unfold wfar; split <;> split <;> omega
theorem sum_nn : ∀ (xs : List Int), (∀ x ∈ xs, 0 ≤ x) → 0 ≤ xs.sum
  | [], _ => by simp
  | x :: r, h => by
    have := h x (List.mem_cons_self ..)
    have := sum_nn r fun y hy => h y (List.mem_cons_of_mem _ hy)
    rw [List.sum_cons]
    omega
theorem sum_map_le {α : Type} (f g : α → Int) : ∀ (xs : List α), (∀ x ∈ xs, f x ≤ g x) → (xs.map f).sum ≤ (xs.map g).sum
  | [], _ => by simp
  | x :: r, h => by
    have := h x (List.mem_cons_self ..)
    have := sum_map_le f g r fun y hy => h y (List.mem_cons_of_mem _ hy)
    rw [List.map_cons, List.map_cons, List.sum_cons, List.sum_cons]
    omega
theorem sum_map_zero {α : Type} (f : α → Int) : ∀ (xs : List α), (∀ x ∈ xs, f x = 0) → (xs.map f).sum = 0
  | [], _ => by simp
  | x :: r, h => by
    have := h x (List.mem_cons_self ..)
    have := sum_map_zero f r fun y hy => h y (List.mem_cons_of_mem _ hy)
    rw [List.map_cons, List.sum_cons]
    omega
theorem sum_map_bd {α : Type} (f g : α → Int) : ∀ (xs : List α), (∀ x ∈ xs, -g x ≤ f x ∧ f x ≤ g x) → -(xs.map g).sum ≤ (xs.map f).sum ∧ (xs.map f).sum ≤ (xs.map g).sum
  | [], _ => by simp
  | x :: r, h => by
    have := h x (List.mem_cons_self ..)
    have := sum_map_bd f g r fun y hy => h y (List.mem_cons_of_mem _ hy)
    rw [List.map_cons, List.map_cons, List.sum_cons, List.sum_cons]
    omega
theorem sum_map_sub {α : Type} (f g : α → Int) : ∀ (xs : List α), (xs.map f).sum - (xs.map g).sum = (xs.map fun x => f x - g x).sum
  | [] => by simp
  | x :: r => by
    have := sum_map_sub f g r
    rw [List.map_cons, List.map_cons, List.map_cons, List.sum_cons, List.sum_cons, List.sum_cons]
    omega
theorem mul_nn {a b : Int} (h : 0 ≤ a) (h2 : 0 ≤ b) : 0 ≤ a * b := Int.mul_nonneg h h2
structure Good (k : Bool) (n : Nat) (D : Den) : Prop where
  mnn : 0 ≤ D.most
  mle : k = true → D.most ≤ 2 ^ bits n
  fnn : ∀ j, 0 ≤ j → 0 ≤ D.far j
  fmono : ∀ i j, 0 ≤ i → i ≤ j → D.far i ≤ D.far j
  f0 : D.far 0 = 0
  fle : k = true → ∀ j, 0 ≤ j → D.far j ≤ 2 * D.most
  vle : k = true → ∀ t, -D.most ≤ D.val t ∧ D.val t ≤ D.most
  sound : ∀ t u j, -j ≤ t - u → t - u ≤ j → -D.far j ≤ D.val t - D.val u ∧ D.val t - D.val u ≤ D.far j
theorem mem_pair {xs : List Unit} {gs : List Den} {R : Den → Prop} (e : xs.length = gs.length) (l : ∀ (i : Nat) x g, xs[i]? = some x → gs[i]? = some g → R g) : ∀ g ∈ gs, R g := by
  intro g hg
  obtain ⟨i, hi, rfl⟩ := List.getElem_of_mem hg
  exact l i xs[i] gs[i] (List.getElem?_eq_getElem (by omega)) (List.getElem?_eq_getElem hi)
/-- what is said of a meaning, by how it is made -/
inductive DG : Nat → Bool → Den → Prop
  | qnum {n} {p : Unit} {i} (h : True) (l : Lim i) : DG (n + 1) true (dNum i)
  | qwave {n} {p b : Unit} {g} (h : True) (l : DG n false g) : DG (n + 1) true (dWave g)
  | qsum {n} {p : Unit} {xs : List Unit} {gs} (h : True) (e : xs.length = gs.length) (l0 : 0 < xs.length) (l1 : xs.length ≤ 1000) (l : ∀ (i : Nat) x g, xs[i]? = some x → gs[i]? = some g → DG n true g) : DG (n + 1) true (dSum gs)
  | qshare {n} {p b : Unit} {g i d} (h : True) (l : DG n true g) (li : Lim i) (ld : Dv d) : DG (n + 1) true (dShare g i d)
  | qprod {n} {p b c : Unit} {g f d} (h : True) (l : DG n true g) (l2 : DG n true f) (ld : Dv d) : DG (n + 1) true (dProd g f d)
  | qlater {n} {p b : Unit} {g i} (h : True) (l : DG n true g) (li : Lim i) : DG (n + 1) true (dLater g i)
  | aturn {n} {p : Unit} {s i d} (h : True) (ls : Lim s) (li : Lim i) (ld : Dv d) : DG (n + 1) false (dTurn s i d)
  | amoved {n} {p b c : Unit} {g f} (h : True) (l : DG n false g) (l2 : DG n true f) : DG (n + 1) false (dMoved g f)
  | aminus {n} {p b c : Unit} {g f} (h : True) (l : DG n false g) (l2 : DG n false f) : DG (n + 1) false (dMinus g f)
theorem unit_get {α : Type} {xs : List α} {i : Nat} {x : Unit} (h : (xs.map fun _ => ())[i]? = some x) : ∃ y, xs[i]? = some y := by
  rw [List.getElem?_map] at h
  cases z : xs[i]? with
  | none => rw [z] at h; cases h
  | some y => exact ⟨y, rfl⟩
theorem DG.good {n : Nat} {k : Bool} {D : Den} (h : DG n k D) : Good k n D := by
  induction h with
  | @qnum n p i h l =>
    obtain ⟨l1, l2⟩ := l
    have b := two_bits n
    have m := ab_nn i
    have m1 := ab_bd i
    have m2 : ab i ≤ 1000000000000 := ab_le (by omega) l2
    have h3 : (1 : Int) * 1000000000000 ≤ 2 ^ bits n * 1000000000000 := Int.mul_le_mul_of_nonneg_right b (by decide)
    refine ⟨m, fun _ => (bits_le (n := n) (c := 1000000000000) (z := ab i) (by decide) (by decide) (by omega) (by omega)).2, fun j _ => cap_nn m (by omega), fun _ _ _ _ => Int.le_refl _, cap_zero m, fun _ _ _ => (cap_le _ _).2, fun _ _ => m1, fun t u j _ _ => ?_⟩
    have z := cap_nn (far := 0) m (by omega)
    show -cap (ab i) 0 ≤ i - i ∧ i - i ≤ cap (ab i) 0
    omega
  | @qwave n p b g h l ih =>
    have b := two_bits n
    have h3 : (1 : Int) * 1000000 ≤ 2 ^ bits n * 1000000 := Int.mul_le_mul_of_nonneg_right b (by decide)
    refine ⟨(by decide : (0 : Int) ≤ 1000000), fun _ => (bits_le (n := n) (c := 1000000) (z := 1000000) (by decide) (by decide) (by omega) (by omega)).2, fun j hj => cap_nn (by decide) (wfar_nn (ih.fnn j hj)), fun i j hi hj => cap_mono (wfar_mono (ih.fnn i hi) (ih.fmono i j hi hj)), ?_, fun _ _ _ => (cap_le _ _).2, fun _ t => wave_most _, fun t u j h1 h2 => ?_⟩
    · show cap 1000000 (wfar (g.far 0)) = 0
      rw [ih.f0]
      decide
    · show -cap 1000000 (wfar (g.far j)) ≤ wave (g.val t) - wave (g.val u) ∧ wave (g.val t) - wave (g.val u) ≤ cap 1000000 (wfar (g.far j))
      have hj : 0 ≤ j := by omega
      have s := ih.sound t u j h1 h2
      have fn := ih.fnn j hj
      have w1 := wave_lip (g.val t) (g.val u)
      have w2 := wave_lip (g.val u) (g.val t)
      have m1 := wave_most (g.val t)
      have m2 := wave_most (g.val u)
      refine cap_bd ?_ (by omega)
      unfold wfar
      by_cases z : g.far j = 0
      · rw [if_pos z]
        have e : g.val t = g.val u := by omega
        rw [e]
        omega
      · rw [if_neg z]
        have a1 : (if g.val t - g.val u < 0 then -(g.val t - g.val u) else g.val t - g.val u) ≤ g.far j := by split <;> omega
        have a2 : (if g.val u - g.val t < 0 then -(g.val u - g.val t) else g.val u - g.val t) ≤ g.far j := by split <;> omega
        generalize (if g.val t - g.val u < 0 then -(g.val t - g.val u) else g.val t - g.val u) = x at *
        generalize (if g.val u - g.val t < 0 then -(g.val u - g.val t) else g.val u - g.val t) = y at *
        omega
  | @qsum n p xs gs h e l0 l1 l ih =>
    have b := two_bits n
    have each : ∀ g ∈ gs, Good true n g := mem_pair e ih
    have mnn : 0 ≤ (gs.map fun v => v.most).sum := sum_nn _ (by intro x hx; obtain ⟨g, hg, rfl⟩ := List.mem_map.mp hx; exact (each g hg).mnn)
    have fnn : ∀ j, 0 ≤ j → 0 ≤ (gs.map fun v => v.far j).sum := fun j hj => sum_nn _ (by intro x hx; obtain ⟨g, hg, rfl⟩ := List.mem_map.mp hx; exact (each g hg).fnn j hj)
    have vle : ∀ t, -(gs.map fun v => v.most).sum ≤ (gs.map fun v => v.val t).sum ∧ (gs.map fun v => v.val t).sum ≤ (gs.map fun v => v.most).sum := fun t => sum_map_bd _ _ gs fun g hg => (each g hg).vle rfl t
    refine ⟨mnn, fun _ => ?_, fun j hj => cap_nn mnn (fnn j hj), fun i j hi hj => cap_mono (sum_map_le _ _ gs fun g hg => (each g hg).fmono i j hi hj), ?_, fun _ _ _ => (cap_le _ _).2, fun _ t => vle t, fun t u j h1 h2 => ?_⟩
    · have all : ∀ (gs : List Den), (∀ g ∈ gs, Good true n g) → (gs.map fun g => g.most).sum ≤ 2 ^ bits n * (gs.length : Int) := by
        intro gs
        induction gs with
        | nil => intro _; simp
        | cons g r ihr =>
          intro hg
          have h1 := (hg g (List.mem_cons_self ..)).mle rfl
          have h2 := ihr fun x hx => hg x (List.mem_cons_of_mem _ hx)
          rw [List.map_cons, List.sum_cons, List.length_cons]
          have e : (2 : Int) ^ bits n * ((r.length + 1 : Nat) : Int) = 2 ^ bits n * (r.length : Int) + 2 ^ bits n := by
            rw [show ((r.length + 1 : Nat) : Int) = (r.length : Int) + 1 by omega, Int.mul_add, Int.mul_one]
          omega
      have q := all gs each
      have q2 : 0 ≤ 2 ^ bits n * (gs.length : Int) := Int.mul_nonneg (by omega) (by omega)
      exact (bits_le (n := n) (c := gs.length) (z := (gs.map fun v => v.most).sum) (by omega) (by omega) (by omega) q).2
    · show cap (gs.map fun v => v.most).sum (gs.map fun v => v.far 0).sum = 0
      rw [sum_map_zero _ gs fun g hg => (each g hg).f0]
      exact cap_zero mnn
    · have v1 := vle t
      have v2 := vle u
      refine cap_bd ?_ (show _ ∧ _ from ⟨by show -(2 * (gs.map fun v => v.most).sum) ≤ (gs.map fun v => v.val t).sum - (gs.map fun v => v.val u).sum; omega, by show (gs.map fun v => v.val t).sum - (gs.map fun v => v.val u).sum ≤ 2 * (gs.map fun v => v.most).sum; omega⟩)
      show _ ≤ (gs.map fun v => v.val t).sum - (gs.map fun v => v.val u).sum ∧ (gs.map fun v => v.val t).sum - (gs.map fun v => v.val u).sum ≤ _
      rw [sum_map_sub]
      exact sum_map_bd _ _ gs fun g hg => (each g hg).sound t u j h1 h2
  | @qshare n p b g i d h l li ld ih =>
    obtain ⟨l1, l2⟩ := li
    obtain ⟨d1, d2⟩ := ld
    have b := two_bits n
    have m := ab_nn i
    have m1 := ab_bd i
    have m2 : ab i ≤ 1000000000000 := ab_le (by omega) l2
    have mnn : 0 ≤ rup (g.most * ab i) d := rup_nn d1 (mul_nn ih.mnn m)
    have vle : ∀ t, -rup (g.most * ab i) d ≤ g.val t * i / d ∧ g.val t * i / d ≤ rup (g.most * ab i) d := fun t => by
      have v := ih.vle rfl t
      have z := mul_size v.1 v.2 m1.1 m1.2
      exact div_bd d1 z.1 z.2
    refine ⟨mnn, fun _ => ?_, fun j hj => cap_nn mnn (rup_nn d1 (mul_nn (ih.fnn j hj) m)), fun x y hx hy => cap_mono (rup_mono d1 (Int.mul_le_mul_of_nonneg_right (ih.fmono x y hx hy) m)), ?_, fun _ _ _ => (cap_le _ _).2, fun _ t => vle t, fun t u j h1 h2 => ?_⟩
    · have a1 := rup_self d1 (mul_nn ih.mnn m)
      have a2 : g.most * ab i ≤ 2 ^ bits n * 1000000000000 := Int.mul_le_mul (ih.mle rfl) m2 m (by omega)
      have a3 : 0 ≤ (2 : Int) ^ bits n * 1000000000000 := by omega
      exact (bits_le (n := n) (c := 1000000000000) (z := rup (g.most * ab i) d) (by decide) (by decide) (by omega) (by omega)).2
    · show cap (rup (g.most * ab i) d) (rup (g.far 0 * ab i) d) = 0
      rw [ih.f0, Int.zero_mul, rup_zero]
      exact cap_zero mnn
    · have s := ih.sound t u j h1 h2
      have z := mul_size s.1 s.2 m1.1 m1.2
      rw [Int.sub_mul] at z
      have q1 := div_diff (a := g.val t * i) (b := g.val u * i) d1 z.2
      have q2 := div_diff (a := g.val u * i) (b := g.val t * i) (B := g.far j * ab i) d1 (by omega)
      have v1 := vle t
      have v2 := vle u
      exact cap_bd (z := g.val t * i / d - g.val u * i / d) (by omega) (by omega)
  | @qprod n p b c g f d h l l2 ld ih ih2 =>
    obtain ⟨d1, d2⟩ := ld
    have b := two_bits n
    have mnn : 0 ≤ rup (g.most * f.most) d := rup_nn d1 (mul_nn ih.mnn ih2.mnn)
    have vle : ∀ t, -rup (g.most * f.most) d ≤ g.val t * f.val t / d ∧ g.val t * f.val t / d ≤ rup (g.most * f.most) d := fun t => by
      have v := ih.vle rfl t
      have w := ih2.vle rfl t
      have z := mul_size v.1 v.2 w.1 w.2
      exact div_bd d1 z.1 z.2
    refine ⟨mnn, fun _ => ?_, fun j hj => cap_nn mnn (rup_nn d1 (Int.add_nonneg (mul_nn ih.mnn (ih2.fnn j hj)) (mul_nn ih2.mnn (ih.fnn j hj)))), fun x y hx hy => cap_mono (rup_mono d1 (Int.add_le_add (Int.mul_le_mul_of_nonneg_left (ih2.fmono x y hx hy) ih.mnn) (Int.mul_le_mul_of_nonneg_left (ih.fmono x y hx hy) ih2.mnn))), ?_, fun _ _ _ => (cap_le _ _).2, fun _ t => vle t, fun t u j h1 h2 => ?_⟩
    · have a1 := rup_self d1 (mul_nn ih.mnn ih2.mnn)
      have a2 : g.most * f.most ≤ 2 ^ bits n * 2 ^ bits n := Int.mul_le_mul (ih.mle rfl) (ih2.mle rfl) ih2.mnn (by omega)
      have hb : 0 ≤ (2 : Int) ^ bits n * 2 ^ bits n := Int.mul_nonneg (by omega) (by omega)
      have h5 : 2 ^ bits n * 2 ^ bits n * (1 : Int) ≤ 2 ^ bits n * 2 ^ bits n * (19342813113834066795298816 : Int) := Int.mul_le_mul_of_nonneg_left (by decide) hb
      rw [bits_up]
      show rup (g.most * f.most) d ≤ _
      omega
    · show cap (rup (g.most * f.most) d) (rup (g.most * f.far 0 + f.most * g.far 0) d) = 0
      rw [ih.f0, ih2.f0, Int.mul_zero, Int.mul_zero, Int.add_zero, rup_zero]
      exact cap_zero mnn
    · have s := ih.sound t u j h1 h2
      have s2 := ih2.sound t u j h1 h2
      have v := ih.vle rfl t
      have w := ih2.vle rfl u
      have z1 := mul_size v.1 v.2 s2.1 s2.2
      have z2 := mul_size w.1 w.2 s.1 s.2
      have e : g.val t * f.val t - g.val u * f.val u = g.val t * (f.val t - f.val u) + f.val u * (g.val t - g.val u) := by grind
      have q1 := div_diff (a := g.val t * f.val t) (b := g.val u * f.val u) (B := g.most * f.far j + f.most * g.far j) d1 (by omega)
      have q2 := div_diff (a := g.val u * f.val u) (b := g.val t * f.val t) (B := g.most * f.far j + f.most * g.far j) d1 (by omega)
      have v1 := vle t
      have v2 := vle u
      exact cap_bd (z := g.val t * f.val t / d - g.val u * f.val u / d) (by omega) (by omega)
  | @qlater n p b g i h l li ih =>
    have b := two_bits n
    refine ⟨ih.mnn, fun _ => ?_, ih.fnn, ih.fmono, ih.f0, ih.fle, fun _ t => ih.vle rfl (t + i), fun t u j h1 h2 => ih.sound (t + i) (u + i) j (by omega) (by omega)⟩
    have a := ih.mle rfl
    have a0 := ih.mnn
    exact (bits_le (n := n) (c := 1) (z := g.most) (by decide) (by decide) (by omega) (by omega)).2
  | @aturn n p s i d h ls li ld =>
    obtain ⟨d1, d2⟩ := ld
    have m := ab_nn i
    have m1 := ab_bd i
    refine ⟨Int.le_refl 0, fun z => by (cases z), fun j hj => rup_nn d1 (mul_nn m hj), fun x y hx hy => rup_mono d1 (Int.mul_le_mul_of_nonneg_left hy m), ?_, fun z => by (cases z), fun z => by (cases z), fun t u j h1 h2 => ?_⟩
    · show rup (ab i * 0) d = 0
      rw [Int.mul_zero, rup_zero]
    · have z := mul_size m1.1 m1.2 h1 h2
      rw [Int.mul_sub] at z
      have q1 := div_diff (a := i * t) (b := i * u) d1 z.2
      have q2 := div_diff (a := i * u) (b := i * t) (B := ab i * j) d1 (by omega)
      show -rup (ab i * j) d ≤ s + i * t / d - (s + i * u / d) ∧ s + i * t / d - (s + i * u / d) ≤ rup (ab i * j) d
      omega
  | @amoved n p b c g f h l l2 ih ih2 =>
    refine ⟨Int.le_refl 0, fun z => by (cases z), fun j hj => Int.add_nonneg (ih.fnn j hj) (ih2.fnn j hj), fun x y hx hy => Int.add_le_add (ih.fmono x y hx hy) (ih2.fmono x y hx hy), ?_, fun z => by (cases z), fun z => by (cases z), fun t u j h1 h2 => ?_⟩
    · show g.far 0 + f.far 0 = 0
      rw [ih.f0, ih2.f0]; rfl
    · have a := ih.sound t u j h1 h2
      have b := ih2.sound t u j h1 h2
      show -(g.far j + f.far j) ≤ g.val t + f.val t - (g.val u + f.val u) ∧ g.val t + f.val t - (g.val u + f.val u) ≤ g.far j + f.far j
      omega
  | @aminus n p b c g f h l l2 ih ih2 =>
    refine ⟨Int.le_refl 0, fun z => by (cases z), fun j hj => Int.add_nonneg (ih.fnn j hj) (ih2.fnn j hj), fun x y hx hy => Int.add_le_add (ih.fmono x y hx hy) (ih2.fmono x y hx hy), ?_, fun z => by (cases z), fun z => by (cases z), fun t u j h1 h2 => ?_⟩
    · show g.far 0 + f.far 0 = 0
      rw [ih.f0, ih2.f0]; rfl
    · have a := ih.sound t u j h1 h2
      have b := ih2.sound t u j h1 h2
      show -(g.far j + f.far j) ≤ g.val t - f.val t - (g.val u - f.val u) ∧ g.val t - f.val t - (g.val u - f.val u) ≤ g.far j + f.far j
      omega
theorem Ex.dg {K : PySem.W.Frag} {H : Hp} {n : Nat} {k : Bool} {v : V} {D : Den} (h : Ex K H n k v D) : DG n k D := by
  induction h with
  | qnum h l => exact .qnum (p := ()) trivial l
  | qwave h l ih => exact .qwave (p := ()) (b := ()) trivial ih
  | @qsum n p xs gs h e l0 l1 l ih => exact .qsum (p := ()) (xs := xs.map fun _ => ()) trivial (by rw [List.length_map]; exact e) (by rw [List.length_map]; exact l0) (by rw [List.length_map]; exact l1) fun i x g hx hg => (unit_get hx).elim fun y hy => ih i y g hy hg
  | qshare h l li ld ih => exact .qshare (p := ()) (b := ()) trivial ih li ld
  | qprod h l l2 ld hb ih ih2 => exact .qprod (p := ()) (b := ()) (c := ()) trivial ih ih2 ld
  | qlater h l li ih => exact .qlater (p := ()) (b := ()) trivial ih li
  | aturn h ls li ld => exact .aturn (p := ()) trivial ls li ld
  | amoved h l l2 ih ih2 => exact .amoved (p := ()) (b := ()) (c := ()) trivial ih ih2
  | aminus h l l2 ih ih2 => exact .aminus (p := ()) (b := ()) (c := ()) trivial ih ih2
theorem Ex.good {K : PySem.W.Frag} {H : Hp} {n : Nat} {k : Bool} {v : V} {D : Den} (h : Ex K H n k v D) : Good k n D := h.dg.good

/-! ### lists of rows: tuples of flat things -/
def Rows (H : Hp) : List Addr → List (List V) → Prop
  | [], [] => True
  | p :: ps, r :: rs => H p = some (.tup r) ∧ Rows H ps rs
  | _, _ => False
theorem Rows.len {H : Hp} : ∀ {ps : List Addr} {rs : List (List V)}, Rows H ps rs → ps.length = rs.length
  | [], [], _ => rfl
  | _ :: ps, _ :: rs, h => by rw [List.length_cons, List.length_cons, Rows.len h.2]
  | [], _ :: _, h => h.elim
  | _ :: _, [], h => h.elim
theorem Rows.sub {H H' : Hp} (s : TupSub H H') : ∀ {ps : List Addr} {rs : List (List V)}, Rows H ps rs → Rows H' ps rs
  | [], [], _ => trivial
  | _ :: _, _ :: _, h => ⟨s _ _ h.1, Rows.sub s h.2⟩
  | [], _ :: _, h => h.elim
  | _ :: _, [], h => h.elim
theorem Rows.append {H : Hp} : ∀ {ps qs : List Addr} {rs ss : List (List V)}, Rows H ps rs → Rows H qs ss → Rows H (ps ++ qs) (rs ++ ss)
  | [], _, [], _, _, h2 => h2
  | _ :: _, _, _ :: _, _, h, h2 => ⟨h.1, Rows.append h.2 h2⟩
  | [], _, _ :: _, _, h, _ => h.elim
  | _ :: _, _, [], _, h, _ => h.elim
theorem Rows.get {H : Hp} : ∀ {ps : List Addr} {rs : List (List V)} {i : Nat} {r : List V}, Rows H ps rs → rs[i]? = some r → ∃ p, ps[i]? = some p ∧ H p = some (.tup r)
  | [], [], _, _, _, e => by simp at e
  | p :: _, _ :: _, 0, _, h, e => by
    simp at e
    subst e
    exact ⟨p, rfl, h.1⟩
  | _ :: _, _ :: _, i + 1, _, h, e => by
    simp at e
    obtain ⟨p, e1, e2⟩ := Rows.get h.2 e
    exact ⟨p, by simpa using e1, e2⟩
  | [], _ :: _, _, _, h, _ => h.elim
  | _ :: _, [], _, _, h, _ => h.elim
theorem Rows.set {H : Hp} {p : Addr} {r : List V} (hp : H p = some (.tup r)) : ∀ {ps : List Addr} {rs : List (List V)} {i : Nat}, Rows H ps rs → Rows H (ps.set i p) (rs.set i r)
  | [], [], _, _ => trivial
  | _ :: _, _ :: _, 0, h => ⟨hp, h.2⟩
  | _ :: _, _ :: _, _ + 1, h => ⟨h.1, Rows.set hp h.2⟩
  | [], _ :: _, _, h => h.elim
  | _ :: _, [], _, h => h.elim
theorem Rows.erase {H : Hp} : ∀ {ps : List Addr} {rs : List (List V)} {i : Nat}, Rows H ps rs → Rows H (ps.eraseIdx i) (rs.eraseIdx i)
  | [], [], _, _ => trivial
  | _ :: _, _ :: _, 0, h => h.2
  | _ :: _, _ :: _, _ + 1, h => ⟨h.1, Rows.erase h.2⟩
  | [], _ :: _, _, h => h.elim
  | _ :: _, [], _, h => h.elim
theorem Rows.take {H : Hp} : ∀ {ps : List Addr} {rs : List (List V)} {i : Nat}, Rows H ps rs → Rows H (ps.take i) (rs.take i)
  | _, _, 0, _ => trivial
  | [], [], _ + 1, _ => trivial
  | _ :: _, _ :: _, _ + 1, h => ⟨h.1, Rows.take h.2⟩
  | [], _ :: _, _ + 1, h => h.elim
  | _ :: _, [], _ + 1, h => h.elim
theorem Rows.drop {H : Hp} : ∀ {ps : List Addr} {rs : List (List V)} {i : Nat}, Rows H ps rs → Rows H (ps.drop i) (rs.drop i)
  | _, _, 0, h => h
  | [], [], _ + 1, _ => trivial
  | _ :: _, _ :: _, i + 1, h => by
    rw [List.drop_succ_cons, List.drop_succ_cons]
    exact Rows.drop h.2
  | [], _ :: _, _ + 1, h => h.elim
  | _ :: _, [], _ + 1, h => h.elim

end K11

set_option Elab.async false
set_option linter.all false
set_option maxRecDepth 100000
namespace K11
open PySem PySem.Spec PyProof.Rows L2
/-! the reader: steps that need no word -/
local macro_rules | `(tactic| walk_at "hp") => `(tactic| first
  | with_reducible assumption
  | exact upd_same
  | (((with_reducible apply Rd.keep); (with_reducible assumption)); walk_at "hp"))
local macro_rules | `(tactic| walk_at "slot") => `(tactic| first | with_reducible apply Rd.slot0 | with_reducible apply Rd.slot1 | with_reducible apply Rd.slot2 | with_reducible apply Rd.slot3 | with_reducible apply Rd.slot4 | with_reducible apply Rd.slot5 | with_reducible apply Rd.slot6 | with_reducible apply Rd.slot7 | with_reducible apply Rd.slot8 | with_reducible apply Rd.slot9 | with_reducible apply Rd.slot10 | with_reducible apply Rd.slot11 | with_reducible apply Rd.slot12 | with_reducible apply Rd.slot13 | with_reducible apply Rd.slot14 | with_reducible apply Rd.slot15 | with_reducible apply Rd.slot16 | with_reducible apply Rd.slot17 | with_reducible apply Rd.slot18 | with_reducible apply Rd.slot19 | with_reducible apply Rd.slot20 | with_reducible apply Rd.slot21 | with_reducible apply Rd.slot22 | with_reducible apply Rd.slot23)
local macro_rules | `(tactic| walk_at "dg") => `(tactic| first | exact g_left | exact g_at | exact g_cells | exact g_mix)
local macro_rules | `(tactic| walk_at "dp") => `(tactic| first | exact p_left | exact p_at | exact p_mix)
local macro_rules | `(tactic| walk_at "le") => `(tactic| first | decide | (simp only [List.length_map, List.length_append]; omega) | omega)
local macro_rules | `(tactic| walk_at "side") => `(tactic| first
  | with_reducible assumption
  | exact Rd.cmulL (by omega) (by omega)
  | exact Rd.cmulR (by omega) (by omega)
  | exact Rd.cpow (by decide) (by decide) (by decide)
  | exact Rd.cdiv (by omega) (by omega)
  | omega)
local macro_rules | `(tactic| walk_at "sq") => `(tactic| first
  | with_reducible assumption
  | exact SqL.of (by walk_at "hp")
  | exact SqT.of (by walk_at "hp"))
local macro_rules | `(tactic| walk_at "at") => `(tactic| first | with_reducible assumption | exact Rd.at0 | exact Rd.at1 | exact Rd.at2 | exact Rd.at3 | exact Rd.at4)
local macro_rules | `(tactic| walk_at "own") => `(tactic| fail)
local macro_rules | `(tactic| walk_at "rd") => `(tactic| repeat (first
  | ((with_reducible apply Rd.var); exact rfl)
  | with_reducible apply Rd.cst
  | with_reducible apply Rd.notn
  | with_reducible apply Rd.isn
  | with_reducible apply Rd.op
  | with_reducible apply Rd.un
  | with_reducible apply Rd.i0
  | with_reducible apply Rd.u1
  | with_reducible apply Rd.eqI
  | with_reducible apply Rd.neI
  | with_reducible apply Rd.eqB
  | with_reducible apply Rd.eqS
  | with_reducible apply Rd.neS
  | with_reducible apply Rd.tst
  | with_reducible apply Rd.tB
  | with_reducible apply Rd.blk
  | with_reducible apply iteF
  | with_reducible apply iteT
  | with_reducible apply Rd.iteNt
  | with_reducible apply Rd.iteNf
  | with_reducible apply Rd.tnot
  | with_reducible apply Rd.tand
  | with_reducible apply Rd.tor
  | with_reducible apply Rd.andV
  | with_reducible apply Rd.orV
  | with_reducible apply Rd.notV
  | with_reducible apply Rd.ifE
  | with_reducible apply Rd.chain
  | with_reducible apply Rd.anil
  | with_reducible apply Rd.acons
  | with_reducible apply Rd.cbInt
  | with_reducible apply Rd.cbAbs
  | with_reducible apply Rd.cbMin
  | with_reducible apply Rd.cbMax
  | with_reducible apply Rd.cbLen
  | ((with_reducible apply Rd.lenL); (walk_at "sq"))
  | ((with_reducible apply Rd.lenT); (walk_at "sq"))
  | with_reducible apply Rd.min2
  | with_reducible apply Rd.max2
  | with_reducible apply Rd.cbTup
  | with_reducible apply Rd.cbLst
  | with_reducible apply Rd.cb
  | ((with_reducible apply Rd.ixL); (walk_at "sq"); (walk_at "at"))
  | ((with_reducible apply Rd.ixT); (walk_at "sq"); (walk_at "at"))
  | with_reducible apply Rd.call
  | with_reducible apply Rd.int1
  | with_reducible apply Rd.abs1
  | with_reducible apply Rd.lst
  | with_reducible apply Rd.tup
  | with_reducible apply Rd.dget
  | with_reducible apply Rd.dput
  | ((with_reducible apply Rd.dgetS); (walk_at "hp"); (walk_at "dg"))
  | ((with_reducible apply Rd.dputS); (walk_at "hp"); (walk_at "le"); (walk_at "dp"))
  | ((with_reducible apply Rd.i1); (walk_at "side"))
  | with_reducible apply Rd.seq
  | with_reducible apply Rd.nxt
  | with_reducible apply Rd.asg
  | walk_at "slot"
  | with_reducible apply Rd.ret
  | with_reducible apply Rd.retN
  | with_reducible apply Rd.ifS
  | with_reducible apply Rd.drop
  | with_reducible apply Rd.brk
  | with_reducible apply Rd.cnt
  | with_reducible apply Rd.pcons
  | with_reducible apply Rd.pnil
  | with_reducible apply Rd.lcl
  | with_reducible apply Rd.lct
  | with_reducible apply Rd.gname
  | with_reducible apply Rd.yes
  | ((with_reducible apply Rd.wip); (exact rfl))
  | with_reducible apply Rd.forl
  | with_reducible apply Rd.fort
  | with_reducible apply Rd.forr
  | with_reducible apply Rd.forr2
  | with_reducible apply Rd.sl
  | with_reducible apply Rd.part
  | with_reducible apply Rd.part1
  | with_reducible apply Rd.nopart
  | with_reducible apply Rd.lcr1
  | with_reducible apply Rd.asgT
  | ((with_reducible apply Rd.gtup); (walk_at "sq"); (exact rfl))
  | with_reducible apply Rd.gcons
  | with_reducible apply Rd.gnil
  | with_reducible apply Rd.gtupV
  | with_reducible apply Rd.dnotin
  | ((with_reducible apply Rd.dnI); (walk_at "hp"))
  | ((with_reducible apply Rd.dgetI); (walk_at "hp"); (with_reducible assumption))
  | with_reducible apply Rd.asgS
  | with_reducible apply Rd.bm
  | ((with_reducible apply Rd.bmL); (walk_at "hp"))
  | with_reducible apply Rd.neB
  | with_reducible apply Rd.notnN
  | with_reducible apply Rd.notnB
  | with_reducible apply Rd.notnI
  | with_reducible apply Rd.isnN
  | with_reducible apply Rd.isnI
  | walk_at "own"))
local macro_rules | `(tactic| walk_at "dec") => `(tactic| first
  | ((with_reducible apply Rd.iteP); (first | with_reducible assumption | exact rfl | decide | omega))
  | ((with_reducible apply Rd.iteM); (first | with_reducible assumption | exact rfl | decide | omega))
  | ((with_reducible apply Rd.iteNP); (first | with_reducible assumption | exact rfl | decide | omega))
  | ((with_reducible apply Rd.iteNM); (first | with_reducible assumption | exact rfl | decide | omega)))
local macro_rules | `(tactic| walk_at "go") => `(tactic| (walk_at "rd"; (repeat (walk_at "dec"; walk_at "rd"))))

section
open Rd
variable {P : Program} {w : World} {K : PySem.W.Frag} {mg : Str → Option Value} {base : Heap}
def spLArch : Sp := fun vs H Q _ => ∃ u : Int, vs = [.int u] ∧ 0 ≤ u ∧ u ≤ 324000 ∧ Q (.int (arch u)) H
set_option maxHeartbeats 4000000 in
theorem ok_larch (T : Txt K mg) : ∃ (f : Addr) (fd : FuncData), FnOk P w K mg base CX0 1 f fd ["u"] spLArch ∧ mg "_law_arch" = some (.ref f) ∧ PySem.W.keepIn K (.ref f) = true ∧ L2.Binds K fd ["u"] [] := by
  obtain ⟨f, fd, F, g, bi⟩ := T.d__law_arch
  refine ⟨f, fd, ?_, g, F.kp, bi⟩
  refine F.ok sc__law_arch (fun vs H Q E h => ?_) (fun cdv A outer s H vs Q E hr h => ?_)
  · obtain ⟨u, rfl, _⟩ := h; rfl
  · obtain ⟨u, rfl, h0, h1, q⟩ := h
    refine ⟨_, (pss_cons (ps_set (i := 1) sc__law_arch.nd rfl (by first | exact Or.inl rfl | exact Or.inr rfl) pe_int)
      (pss_one (ps_ret (pe_op op_fdivW (pe_op op_mul (pe_op op_mul pe_int (pv 0)) (pe_op op_sub (pe_op op_mul (pe_op op_mul pe_int (pv 1)) (pv 1)) (pe_op op_mul (pv 0) (pv 0)))) (pe_op op_mul (pe_op op_mul (pe_op op_mul pe_int (pv 1)) (pv 1)) (pv 1)))))), ?_⟩
    refine Rd.start (σ' := [some (.int u), none]) rfl ?_
    try dsimp only [cxOf, Cx.nox, Cx.wish]
    walk_at "go"
    rw [← arch_due] at q
    exact q
theorem larch_go {H : Hp} {u : Int} {Q : VK} {E : XK} (h0 : 0 ≤ u) (h1 : u ≤ 324000) (q : Q (.int (arch u)) H) : CALL spLArch [.int u] H Q E := ⟨u, rfl, h0, h1, q⟩
set_option maxHeartbeats 4000000 in
theorem ok_lwave (T : Txt K mg) : ∃ (f : Addr) (fd : FuncData), FnOk P w K mg base CX0 2 f fd ["x"] spWave ∧ mg "_law_wave" = some (.ref f) ∧ PySem.W.keepIn K (.ref f) = true ∧ L2.Binds K fd ["x"] [] := by
  obtain ⟨f, fd, F, g, bi⟩ := T.d__law_wave
  obtain ⟨f__law_arch, fd__law_arch, G__law_arch, g__law_arch, kp__law_arch, b__law_arch⟩ := ok_larch (P := P) (w := w) (base := base) T
  refine ⟨f, fd, ?_, g, F.kp, bi⟩
  refine F.ok sc__law_wave (fun vs H Q E h => ?_) (fun cdv A outer s H vs Q E hr h => ?_)
  · obtain ⟨x, rfl, _⟩ := h; rfl
  · obtain ⟨x, rfl, q⟩ := h
    refine ⟨_, (pss_cons (ps_set (i := 0) sc__law_wave.nd rfl (by first | exact Or.inl rfl | exact Or.inr rfl) (pe_op op_mod (pe_callTy call_int1 (by rfl) T.m_int (by decide +kernel) (pa_cons (pv 0) pa_nil)) pe_int))
      (pss_cons (ps_if (pt_cmpR op_ge (pv 0) pe_int (nomark _)) (pss_one (ps_ret (pe_un un_neg (pe_call G__law_arch (hr.mono (by omega)) (by rfl) g__law_arch kp__law_arch b__law_arch .nil pass0 (pa_cons (pe_callB (call_min2 rfl) (by rfl) T.m_min (by decide +kernel) (pa_cons (pe_op op_sub (pv 0) pe_int) (pa_cons (pe_op op_sub pe_int (pv 0)) pa_nil))) pa_nil))))) pss_nil)
      (pss_one (ps_ret (pe_call G__law_arch (hr.mono (by omega)) (by rfl) g__law_arch kp__law_arch b__law_arch .nil pass0 (pa_cons (pe_callB (call_min2 rfl) (by rfl) T.m_min (by decide +kernel) (pa_cons (pv 0) (pa_cons (pe_op op_sub pe_int (pv 0)) pa_nil))) pa_nil)))))), ?_⟩
    refine Rd.start (σ' := [some (.int x)]) rfl ?_
    try dsimp only [cxOf, Cx.nox, Cx.wish]
    have h0 : 0 ≤ x % 1296000 := Int.emod_nonneg _ (by decide)
    have h1 : x % 1296000 < 1296000 := Int.emod_lt_of_pos _ (by decide)
    rw [← lw_wave] at q
    unfold lw at q
    by_cases a : x % 1296000 ≥ 648000
    · rw [if_pos a] at q
      walk_at "go"
      refine larch_go (by split <;> omega) (by split <;> omega) ?_
      walk_at "go"
      exact q
    · rw [if_neg a] at q
      walk_at "go"
      refine larch_go (by split <;> omega) (by split <;> omega) ?_
      exact q
end

section
open Rd
variable {P : Program} {w : World} {K : PySem.W.Frag} {mg : Str → Option Value} {base : Heap}
set_option maxHeartbeats 8000000 in
theorem ok__law_value (T0 : Txt K mg) : ∀ n : Nat, (∃ (f : Addr) (fd : FuncData), FnOk P w K mg base CX0 (n + 3) f fd ["q", "t"] (spVal K n true) ∧ mg "_law_value" = some (.ref f) ∧ PySem.W.keepIn K (.ref f) = true ∧ L2.Binds K fd ["q", "t"] []) ∧
    (∃ (f : Addr) (fd : FuncData), FnOk P w K mg base CX0 (n + 3) f fd ["a", "t"] (spVal K n false) ∧ mg "_law_angle_at" = some (.ref f) ∧ PySem.W.keepIn K (.ref f) = true ∧ L2.Binds K fd ["a", "t"] []) := by
  have T := T0
  obtain ⟨fq, fdq, Fq, gq, bq⟩ := T.d__law_value
  obtain ⟨fa, fda, Fa, ga, ba⟩ := T.d__law_angle_at
  obtain ⟨f__law_wave, fd__law_wave, G__law_wave, g__law_wave, kp__law_wave, b__law_wave⟩ := ok_lwave (P := P) (w := w) (base := base) T
  intro n
  induction n with
  | zero =>
    exact ⟨⟨fq, fdq, never.imp (fun vs H Q E h => by obtain ⟨v, t, D, _, h, _⟩ := h; cases h), gq, Fq.kp, bq⟩, ⟨fa, fda, never.imp (fun vs H Q E h => by obtain ⟨v, t, D, _, h, _⟩ := h; cases h), ga, Fa.kp, ba⟩⟩
  | succ n ih =>
    obtain ⟨⟨f__law_value, fd__law_value, G__law_value, g__law_value, kp__law_value, b__law_value⟩, ⟨f__law_angle_at, fd__law_angle_at, G__law_angle_at, g__law_angle_at, kp__law_angle_at, b__law_angle_at⟩⟩ := ih
    refine ⟨⟨fq, fdq, ?_, gq, Fq.kp, bq⟩, ⟨fa, fda, ?_, ga, Fa.kp, ba⟩⟩
    · refine Fq.ok sc__law_value (fun vs H Q E h => ?_) (fun cdv A outer s H vs Q E hr h => ?_)
      · obtain ⟨v, t, D, rfl, _⟩ := h; rfl
      · obtain ⟨v, t, D, rfl, h, hn, q⟩ := h
        refine ⟨_, (pss_cons (ps_if (pt_cmpR op_eq (pe_ix ix_tup (pv 0) pe_int (fun _ _ => rfl)) pe_str (nomark _)) (pss_one (ps_ret (pe_ix ix_tup (pv 0) pe_int (fun _ _ => rfl)))) pss_nil)
      (pss_cons (ps_if (pt_cmpR op_eq (pe_ix ix_tup (pv 0) pe_int (fun _ _ => rfl)) pe_str (nomark _)) (pss_one (ps_ret (pe_call G__law_wave (hr.mono (by omega)) (by rfl) g__law_wave kp__law_wave b__law_wave .nil pass0 (pa_cons (pe_call G__law_angle_at (hr.mono (by omega)) (by rfl) g__law_angle_at kp__law_angle_at b__law_angle_at .nil pass0 (pa_cons (pe_ix ix_tup (pv 0) pe_int (fun _ _ => rfl)) (pa_cons (pv 1) pa_nil))) pa_nil)))) pss_nil)
      (pss_cons (ps_if (pt_cmpR op_eq (pe_ix ix_tup (pv 0) pe_int (fun _ _ => rfl)) pe_str (nomark _)) (pss_one (ps_ret (pe_callB (cr_sum rfl) (by rfl) T.m_sum (by decide +kernel) (pa_cons (pe_lc (own := [("part", 2)]) (g := gName 2) (tt := tYes) (by rfl) sc__law_value.nd (pi_tup (pe_slice sl_tup (pv 0) (po_some pe_int) po_none)) (blkOk_by (own := [("part", 2)]) (N := ["q", "t", "part"]) (sc := defScope s__law_value) (by decide +kernel)) (fun _ _ _ _ _ => (pg_name (i := 2) sc__law_value.nd rfl (by first | exact Or.inl rfl | exact Or.inr rfl))) (fun _ _ _ _ _ => pts_nil) (fun _ _ _ _ _ => (pe_call G__law_value (hr.mono (by omega)) (by rfl) g__law_value kp__law_value b__law_value .nil pass0 (pa_cons (pv 2) (pa_cons (pv 1) pa_nil))))) pa_nil)))) pss_nil)
      (pss_cons (ps_if (pt_cmpR op_eq (pe_ix ix_tup (pv 0) pe_int (fun _ _ => rfl)) pe_str (nomark _)) (pss_one (ps_ret (pe_op op_fdivW (pe_op op_mul (pe_call G__law_value (hr.mono (by omega)) (by rfl) g__law_value kp__law_value b__law_value .nil pass0 (pa_cons (pe_ix ix_tup (pv 0) pe_int (fun _ _ => rfl)) (pa_cons (pv 1) pa_nil))) (pe_ix ix_tup (pv 0) pe_int (fun _ _ => rfl))) (pe_ix ix_tup (pv 0) pe_int (fun _ _ => rfl))))) pss_nil)
      (pss_cons (ps_if (pt_cmpR op_eq (pe_ix ix_tup (pv 0) pe_int (fun _ _ => rfl)) pe_str (nomark _)) (pss_one (ps_ret (pe_op op_fdivW (pe_op op_mulW (pe_call G__law_value (hr.mono (by omega)) (by rfl) g__law_value kp__law_value b__law_value .nil pass0 (pa_cons (pe_ix ix_tup (pv 0) pe_int (fun _ _ => rfl)) (pa_cons (pv 1) pa_nil))) (pe_call G__law_value (hr.mono (by omega)) (by rfl) g__law_value kp__law_value b__law_value .nil pass0 (pa_cons (pe_ix ix_tup (pv 0) pe_int (fun _ _ => rfl)) (pa_cons (pv 1) pa_nil)))) (pe_ix ix_tup (pv 0) pe_int (fun _ _ => rfl))))) pss_nil)
      (pss_one (ps_ret (pe_call G__law_value (hr.mono (by omega)) (by rfl) g__law_value kp__law_value b__law_value .nil pass0 (pa_cons (pe_ix ix_tup (pv 0) pe_int (fun _ _ => rfl)) (pa_cons (pe_op op_add (pv 1) (pe_ix ix_tup (pv 0) pe_int (fun _ _ => rfl))) pa_nil)))))))))), ?_⟩
        refine Rd.start (σ' := [some v, some (.int t), none]) rfl ?_
        try dsimp only [cxOf, Cx.nox, Cx.wish]
        cases h with
        | @qnum _ p i h l =>
          walk_at "go"
          exact q _ (Same.refl _)
        | @qwave _ p b g h l =>
          walk_at "go"
          refine val_go l (by omega) fun H1 s1 => ?_
          walk_at "go"
          refine wave_go ?_
          walk_at "go"
          exact q _ s1
        | @qsum _ p xs gs h e l0 l1 l =>
          walk_at "go"
          refine Rd.slT1 h fun p2 n2 => ?_
          walk_at "go"
          have sp : Same H (upd H p2 (.tup xs)) := Same.put n2
          refine Rd.lctMap (ys := (gs.map fun g => g.val t).map V.int) (σ0 := [some (.ref p), some (.int t), none]) rfl (SqT.of upd_same) (by simp [e]) (by simp; omega) (fun i x y H' N hx hy sm hN => ?_) (fun D H' nD hD sm => ?_)
          · rw [List.map_map, List.getElem?_map] at hy
            obtain ⟨g, hg, rfl⟩ : ∃ g, gs[i]? = some g ∧ V.int (g.val t) = y := by
              cases hz : gs[i]? with
              | none => rw [hz] at hy; cases hy
              | some g => rw [hz] at hy; exact ⟨g, rfl, Option.some.inj hy⟩
            walk_at "go"
            refine val_go ((l i x g hx hg).sub (TupK.same (sp.trans sm))) (by omega) fun H1 s1 => ?_
            exact hN _ s1
          · walk_at "go"
            refine Rd.sum1 (SqL.of hD) ?_
            walk_at "go"
            exact q _ (sp.trans sm)
        | @qshare _ p b g i d h l li ld =>
          obtain ⟨li1, li2⟩ := li
          obtain ⟨ld1, ld2⟩ := ld
          walk_at "go"
          refine val_go l (by omega) fun H1 s1 => ?_
          have h1 := s1.seqT h
          walk_at "go"
          exact q _ s1
        | @qprod _ p b c g f d h l l2 ld hb =>
          obtain ⟨ld1, ld2⟩ := ld
          have z1 := l.good.vle rfl t
          have z2 := l2.good.vle rfl t
          have bp := BM_pos
          have hW : CMulW (g.val t) (f.val t) := mulB (by omega) (by omega) (by omega) (by omega)
          walk_at "go"
          refine val_go l (by omega) fun H1 s1 => ?_
          have h1 := s1.seqT h
          walk_at "go"
          refine val_go (l2.sub (TupK.same s1)) (by omega) fun H2 s2 => ?_
          have h2 := s2.seqT h1
          walk_at "go"
          exact q _ (s1.trans s2)
        | @qlater _ p b g i h l li =>
          walk_at "go"
          refine val_go l (by omega) fun H1 s1 => ?_
          exact q _ s1
    · refine Fa.ok sc__law_angle_at (fun vs H Q E h => ?_) (fun cdv A outer s H vs Q E hr h => ?_)
      · obtain ⟨v, t, D, rfl, _⟩ := h; rfl
      · obtain ⟨v, t, D, rfl, h, hn, q⟩ := h
        refine ⟨_, (pss_cons (ps_if (pt_cmpR op_eq (pe_ix ix_tup (pv 0) pe_int (fun _ _ => rfl)) pe_str (nomark _)) (pss_one (ps_ret (pe_op op_add (pe_ix ix_tup (pv 0) pe_int (fun _ _ => rfl)) (pe_op op_fdivW (pe_op op_mul (pe_ix ix_tup (pv 0) pe_int (fun _ _ => rfl)) (pv 1)) (pe_ix ix_tup (pv 0) pe_int (fun _ _ => rfl)))))) pss_nil)
      (pss_cons (ps_if (pt_cmpR op_eq (pe_ix ix_tup (pv 0) pe_int (fun _ _ => rfl)) pe_str (nomark _)) (pss_one (ps_ret (pe_op op_add (pe_call G__law_angle_at (hr.mono (by omega)) (by rfl) g__law_angle_at kp__law_angle_at b__law_angle_at .nil pass0 (pa_cons (pe_ix ix_tup (pv 0) pe_int (fun _ _ => rfl)) (pa_cons (pv 1) pa_nil))) (pe_call G__law_value (hr.mono (by omega)) (by rfl) g__law_value kp__law_value b__law_value .nil pass0 (pa_cons (pe_ix ix_tup (pv 0) pe_int (fun _ _ => rfl)) (pa_cons (pv 1) pa_nil)))))) pss_nil)
      (pss_one (ps_ret (pe_op op_sub (pe_call G__law_angle_at (hr.mono (by omega)) (by rfl) g__law_angle_at kp__law_angle_at b__law_angle_at .nil pass0 (pa_cons (pe_ix ix_tup (pv 0) pe_int (fun _ _ => rfl)) (pa_cons (pv 1) pa_nil))) (pe_call G__law_angle_at (hr.mono (by omega)) (by rfl) g__law_angle_at kp__law_angle_at b__law_angle_at .nil pass0 (pa_cons (pe_ix ix_tup (pv 0) pe_int (fun _ _ => rfl)) (pa_cons (pv 1) pa_nil)))))))), ?_⟩
        refine Rd.start (σ' := [some v, some (.int t)]) rfl ?_
        try dsimp only [cxOf, Cx.nox, Cx.wish]
        cases h with
        | @aturn _ p s i d h ls li ld =>
          obtain ⟨li1, li2⟩ := li
          obtain ⟨ld1, ld2⟩ := ld
          walk_at "go"
          exact q _ (Same.refl _)
        | @amoved _ p b c g f h l l2 =>
          walk_at "go"
          refine val_go l (by omega) fun H1 s1 => ?_
          have h1 := s1.seqT h
          walk_at "go"
          refine val_go (l2.sub (TupK.same s1)) (by omega) fun H2 s2 => ?_
          have h2 := s2.seqT h1
          walk_at "go"
          exact q _ (s1.trans s2)
        | @aminus _ p b c g f h l l2 =>
          walk_at "go"
          refine val_go l (by omega) fun H1 s1 => ?_
          have h1 := s1.seqT h
          walk_at "go"
          refine val_go (l2.sub (TupK.same s1)) (by omega) fun H2 s2 => ?_
          have h2 := s2.seqT h1
          walk_at "go"
          exact q _ (s1.trans s2)
end

end K11

set_option Elab.async false
set_option linter.all false
set_option maxRecDepth 100000
namespace K11
open PySem PySem.Spec PyProof.Rows L2
/-! the reader: steps that need no word -/
local macro_rules | `(tactic| walk_at "hp") => `(tactic| first
  | with_reducible assumption
  | exact upd_same
  | (((with_reducible apply Rd.keep); (with_reducible assumption)); walk_at "hp"))
local macro_rules | `(tactic| walk_at "slot") => `(tactic| first | with_reducible apply Rd.slot0 | with_reducible apply Rd.slot1 | with_reducible apply Rd.slot2 | with_reducible apply Rd.slot3 | with_reducible apply Rd.slot4 | with_reducible apply Rd.slot5 | with_reducible apply Rd.slot6 | with_reducible apply Rd.slot7 | with_reducible apply Rd.slot8 | with_reducible apply Rd.slot9 | with_reducible apply Rd.slot10 | with_reducible apply Rd.slot11 | with_reducible apply Rd.slot12 | with_reducible apply Rd.slot13 | with_reducible apply Rd.slot14 | with_reducible apply Rd.slot15 | with_reducible apply Rd.slot16 | with_reducible apply Rd.slot17 | with_reducible apply Rd.slot18 | with_reducible apply Rd.slot19 | with_reducible apply Rd.slot20 | with_reducible apply Rd.slot21 | with_reducible apply Rd.slot22 | with_reducible apply Rd.slot23)
local macro_rules | `(tactic| walk_at "dg") => `(tactic| first | exact g_left | exact g_at | exact g_cells | exact g_mix)
local macro_rules | `(tactic| walk_at "dp") => `(tactic| first | exact p_left | exact p_at | exact p_mix)
local macro_rules | `(tactic| walk_at "le") => `(tactic| first | decide | (simp only [List.length_map, List.length_append]; omega) | omega)
local macro_rules | `(tactic| walk_at "side") => `(tactic| first
  | with_reducible assumption
  | exact Rd.cmulL (by omega) (by omega)
  | exact Rd.cmulR (by omega) (by omega)
  | exact Rd.cpow (by decide) (by decide) (by decide)
  | exact Rd.cdiv (by omega) (by omega)
  | omega)
local macro_rules | `(tactic| walk_at "sq") => `(tactic| first
  | with_reducible assumption
  | exact SqL.of (by walk_at "hp")
  | exact SqT.of (by walk_at "hp"))
local macro_rules | `(tactic| walk_at "at") => `(tactic| first | with_reducible assumption | exact Rd.at0 | exact Rd.at1 | exact Rd.at2 | exact Rd.at3 | exact Rd.at4)
local macro_rules | `(tactic| walk_at "own") => `(tactic| fail)
local macro_rules | `(tactic| walk_at "rd") => `(tactic| repeat (first
  | ((with_reducible apply Rd.var); exact rfl)
  | with_reducible apply Rd.cst
  | with_reducible apply Rd.notn
  | with_reducible apply Rd.isn
  | with_reducible apply Rd.op
  | with_reducible apply Rd.un
  | with_reducible apply Rd.i0
  | with_reducible apply Rd.u1
  | with_reducible apply Rd.eqI
  | with_reducible apply Rd.neI
  | with_reducible apply Rd.eqB
  | with_reducible apply Rd.eqS
  | with_reducible apply Rd.neS
  | with_reducible apply Rd.tst
  | with_reducible apply Rd.tB
  | with_reducible apply Rd.blk
  | with_reducible apply iteF
  | with_reducible apply iteT
  | with_reducible apply Rd.iteNt
  | with_reducible apply Rd.iteNf
  | with_reducible apply Rd.tnot
  | with_reducible apply Rd.tand
  | with_reducible apply Rd.tor
  | with_reducible apply Rd.andV
  | with_reducible apply Rd.orV
  | with_reducible apply Rd.notV
  | with_reducible apply Rd.ifE
  | with_reducible apply Rd.chain
  | with_reducible apply Rd.anil
  | with_reducible apply Rd.acons
  | with_reducible apply Rd.cbInt
  | with_reducible apply Rd.cbAbs
  | with_reducible apply Rd.cbMin
  | with_reducible apply Rd.cbMax
  | with_reducible apply Rd.cbLen
  | ((with_reducible apply Rd.lenL); (walk_at "sq"))
  | ((with_reducible apply Rd.lenT); (walk_at "sq"))
  | with_reducible apply Rd.min2
  | with_reducible apply Rd.max2
  | with_reducible apply Rd.cbTup
  | with_reducible apply Rd.cbLst
  | with_reducible apply Rd.cb
  | ((with_reducible apply Rd.ixL); (walk_at "sq"); (walk_at "at"))
  | ((with_reducible apply Rd.ixT); (walk_at "sq"); (walk_at "at"))
  | with_reducible apply Rd.call
  | with_reducible apply Rd.int1
  | with_reducible apply Rd.abs1
  | with_reducible apply Rd.lst
  | with_reducible apply Rd.tup
  | with_reducible apply Rd.dget
  | with_reducible apply Rd.dput
  | ((with_reducible apply Rd.dgetS); (walk_at "hp"); (walk_at "dg"))
  | ((with_reducible apply Rd.dputS); (walk_at "hp"); (walk_at "le"); (walk_at "dp"))
  | ((with_reducible apply Rd.i1); (walk_at "side"))
  | with_reducible apply Rd.seq
  | with_reducible apply Rd.nxt
  | with_reducible apply Rd.asg
  | walk_at "slot"
  | with_reducible apply Rd.ret
  | with_reducible apply Rd.retN
  | with_reducible apply Rd.ifS
  | with_reducible apply Rd.drop
  | with_reducible apply Rd.brk
  | with_reducible apply Rd.cnt
  | with_reducible apply Rd.pcons
  | with_reducible apply Rd.pnil
  | with_reducible apply Rd.lcl
  | with_reducible apply Rd.lct
  | with_reducible apply Rd.gname
  | with_reducible apply Rd.yes
  | ((with_reducible apply Rd.wip); (exact rfl))
  | with_reducible apply Rd.forl
  | with_reducible apply Rd.fort
  | with_reducible apply Rd.forr
  | with_reducible apply Rd.forr2
  | with_reducible apply Rd.sl
  | with_reducible apply Rd.part
  | with_reducible apply Rd.part1
  | with_reducible apply Rd.nopart
  | with_reducible apply Rd.lcr1
  | with_reducible apply Rd.asgT
  | ((with_reducible apply Rd.gtup); (walk_at "sq"); (exact rfl))
  | with_reducible apply Rd.gcons
  | with_reducible apply Rd.gnil
  | with_reducible apply Rd.gtupV
  | with_reducible apply Rd.dnotin
  | ((with_reducible apply Rd.dnI); (walk_at "hp"))
  | ((with_reducible apply Rd.dgetI); (walk_at "hp"); (with_reducible assumption))
  | with_reducible apply Rd.asgS
  | with_reducible apply Rd.bm
  | ((with_reducible apply Rd.bmL); (walk_at "hp"))
  | with_reducible apply Rd.neB
  | with_reducible apply Rd.notnN
  | with_reducible apply Rd.notnB
  | with_reducible apply Rd.notnI
  | with_reducible apply Rd.isnN
  | with_reducible apply Rd.isnI
  | walk_at "own"))
local macro_rules | `(tactic| walk_at "dec") => `(tactic| first
  | ((with_reducible apply Rd.iteP); (first | with_reducible assumption | exact rfl | decide | omega))
  | ((with_reducible apply Rd.iteM); (first | with_reducible assumption | exact rfl | decide | omega))
  | ((with_reducible apply Rd.iteNP); (first | with_reducible assumption | exact rfl | decide | omega))
  | ((with_reducible apply Rd.iteNM); (first | with_reducible assumption | exact rfl | decide | omega)))
local macro_rules | `(tactic| walk_at "go") => `(tactic| (walk_at "rd"; (repeat (walk_at "dec"; walk_at "rd"))))
section
open Rd
variable {P : Program} {w : World} {K : PySem.W.Frag} {mg : Str → Option Value} {base : Heap}
theorem min_cap (top far : Int) : (if 2 * top < far then 2 * top else far) = cap top far := rfl
def spInt2 (pre : Int → Int → Prop) (g : Int → Int → Int) : Sp := fun vs H Q _ => ∃ a b : Int, vs = [.int a, .int b] ∧ pre a b ∧ Q (.int (g a b)) H
theorem int2_go {pre : Int → Int → Prop} {g : Int → Int → Int} {H : Hp} {a b : Int} {Q : VK} {E : XK} (h : pre a b) (q : Q (.int (g a b)) H) : CALL (spInt2 pre g) [.int a, .int b] H Q E := ⟨a, b, rfl, h, q⟩
abbrev rupPre (_ d : Int) : Prop := 1 ≤ d ∧ d ≤ 1000000000000
set_option maxHeartbeats 4000000 in
theorem ok_rup (T : Txt K mg) : ∃ (f : Addr) (fd : FuncData), FnOk P w K mg base CX0 1 f fd ["n", "d"] (spInt2 rupPre rup) ∧ mg "_rounded_up" = some (.ref f) ∧ PySem.W.keepIn K (.ref f) = true ∧ L2.Binds K fd ["n", "d"] [] := by
  obtain ⟨f, fd, F, g, bi⟩ := T.d__rounded_up
  refine ⟨f, fd, ?_, g, F.kp, bi⟩
  refine F.ok sc__rounded_up (fun vs H Q E h => ?_) (fun cdv A outer s H vs Q E hr h => ?_)
  · obtain ⟨a, b, rfl, _⟩ := h; rfl
  · obtain ⟨a, b, rfl, ⟨h0, h1⟩, q⟩ := h
    refine ⟨_, (pss_one (ps_ret (pe_un un_neg (pe_op op_fdivW (pe_un un_neg (pv 0)) (pv 1))))), ?_⟩
    refine Rd.start (σ' := [some (.int a), some (.int b)]) rfl ?_
    try dsimp only [cxOf, Cx.nox, Cx.wish]
    walk_at "go"
    exact q
def spWfar : Sp := fun vs H Q _ => ∃ a : Int, vs = [.int a] ∧ Q (.int (wfar a)) H
theorem wfar_go {H : Hp} {a : Int} {Q : VK} {E : XK} (q : Q (.int (wfar a)) H) : CALL spWfar [.int a] H Q E := ⟨a, rfl, q⟩
set_option maxHeartbeats 4000000 in
theorem ok_wfar (T : Txt K mg) : ∃ (f : Addr) (fd : FuncData), FnOk P w K mg base CX0 1 f fd ["far"] spWfar ∧ mg "_wave_reach" = some (.ref f) ∧ PySem.W.keepIn K (.ref f) = true ∧ L2.Binds K fd ["far"] [] := by
  obtain ⟨f, fd, F, g, bi⟩ := T.d__wave_reach
  refine ⟨f, fd, ?_, g, F.kp, bi⟩
  refine F.ok sc__wave_reach (fun vs H Q E h => ?_) (fun cdv A outer s H vs Q E hr h => ?_)
  · obtain ⟨a, rfl, _⟩ := h; rfl
  · obtain ⟨a, rfl, q⟩ := h
    refine ⟨_, (pss_cons (ps_if (pt_cmpR op_eq (pv 0) pe_int (nomark _)) (pss_one (ps_ret pe_int)) pss_nil)
      (pss_one (ps_ret (pe_op op_add (pe_op op_fdivW (pe_op op_mul pe_int (pv 0)) pe_int) pe_int)))), ?_⟩
    refine Rd.start (σ' := [some (.int a)]) rfl ?_
    try dsimp only [cxOf, Cx.nox, Cx.wish]
    unfold wfar at q
    by_cases z : a = 0
    · rw [if_pos z] at q
      walk_at "go"
      exact q
    · rw [if_neg z] at q
      walk_at "go"
      exact q
/-- a pair's promise: the most, and some reach that is the reach when capped -/
def spPair (K : PySem.W.Frag) (n : Nat) (ok : Den → Int → Int → Prop) : Sp := fun vs H Q _ => ∃ (v : V) (k : Int) (D : Den), vs = [v, .int k] ∧ Ex K H n true v D ∧ n ≤ 20 ∧ 0 ≤ k ∧ ∀ H' p x, Same H H' → H p = none → H' p = some (.tup [.int D.most, .int x]) → ok D k x → Q (.ref p) H'
theorem pair_go {ok : Den → Int → Int → Prop} {H : Hp} {n : Nat} {v : V} {k : Int} {D : Den} {Q : VK} {E : XK} (h : Ex K H n true v D) (hn : n ≤ 20) (h0 : 0 ≤ k) (q : ∀ H' p x, Same H H' → H p = none → H' p = some (.tup [.int D.most, .int x]) → ok D k x → Q (.ref p) H') : CALL (spPair K n ok) [v, .int k] H Q E := ⟨v, k, D, rfl, h, hn, h0, q⟩
abbrev okU (D : Den) (k x : Int) : Prop := cap D.most x = D.far k
abbrev okM (D : Den) (k x : Int) : Prop := x = D.far k
def spFar (K : PySem.W.Frag) (n : Nat) (b : Bool) : Sp := fun vs H Q _ => ∃ (v : V) (k : Int) (D : Den), vs = [v, .int k] ∧ Ex K H n b v D ∧ n ≤ 20 ∧ 0 ≤ k ∧ ∀ H', Same H H' → Q (.int (D.far k)) H'
theorem far_go {H : Hp} {n : Nat} {b : Bool} {v : V} {k : Int} {D : Den} {Q : VK} {E : XK} (h : Ex K H n b v D) (hn : n ≤ 20) (h0 : 0 ≤ k) (q : ∀ H', Same H H' → Q (.int (D.far k)) H') : CALL (spFar K n b) [v, .int k] H Q E := ⟨v, k, D, rfl, h, hn, h0, q⟩
def spMost (K : PySem.W.Frag) (n : Nat) : Sp := fun vs H Q _ => ∃ (v : V) (D : Den), vs = [v] ∧ Ex K H n true v D ∧ n ≤ 20 ∧ ∀ H', Same H H' → Q (.int D.most) H'
theorem most_go {H : Hp} {n : Nat} {v : V} {D : Den} {Q : VK} {E : XK} (h : Ex K H n true v D) (hn : n ≤ 20) (q : ∀ H', Same H H' → Q (.int D.most) H') : CALL (spMost K n) [v] H Q E := ⟨v, D, rfl, h, hn, q⟩
set_option maxHeartbeats 8000000 in
theorem ok_pairM (T : Txt K mg) (n : Nat) (l : Nat) (U : ∃ (f : Addr) (fd : FuncData), FnOk P w K mg base CX0 l f fd ["q", "k"] (spPair K n okU) ∧ mg "_uncapped" = some (.ref f) ∧ PySem.W.keepIn K (.ref f) = true ∧ L2.Binds K fd ["q", "k"] []) :
    ∃ (f : Addr) (fd : FuncData), FnOk P w K mg base CX0 (l + 1) f fd ["q", "k"] (spPair K n okM) ∧ mg "_most_and_reach" = some (.ref f) ∧ PySem.W.keepIn K (.ref f) = true ∧ L2.Binds K fd ["q", "k"] [] := by
  obtain ⟨f, fd, F, g, bi⟩ := T.d__most_and_reach
  obtain ⟨f__uncapped, fd__uncapped, G__uncapped, g__uncapped, kp__uncapped, b__uncapped⟩ := U
  refine ⟨f, fd, ?_, g, F.kp, bi⟩
  refine F.ok sc__most_and_reach (fun vs H Q E h => ?_) (fun cdv A outer s H vs Q E hr h => ?_)
  · obtain ⟨v, k, D, rfl, _⟩ := h; rfl
  · obtain ⟨v, k, D, rfl, h, hn, h0, q⟩ := h
    refine ⟨_, (pss_cons (ps_asg (pe_call G__uncapped (hr.mono (by omega)) (by rfl) g__uncapped kp__uncapped b__uncapped .nil pass0 (pa_cons (pv 0) (pa_cons (pv 1) pa_nil))) (pg_tup (by rfl) (pgs_cons (pg_name (i := 2) sc__most_and_reach.nd rfl (by first | exact Or.inl rfl | exact Or.inr rfl)) (pgs_cons (pg_name (i := 3) sc__most_and_reach.nd rfl (by first | exact Or.inl rfl | exact Or.inr rfl)) pgs_nil))))
      (pss_one (ps_ret (pe_tup (pa_cons (pv 2) (pa_cons (pe_callB (call_min2 rfl) (by rfl) T.m_min (by decide +kernel) (pa_cons (pv 3) (pa_cons (pe_op op_mul pe_int (pv 2)) pa_nil))) pa_nil)))))), ?_⟩
    refine Rd.start (σ' := [some v, some (.int k), none, none]) rfl ?_
    try dsimp only [cxOf, Cx.nox, Cx.wish]
    walk_at "go"
    refine pair_go h hn h0 fun H1 p x s1 np hp e => ?_
    walk_at "go"
    rw [min_cap, show cap D.most x = D.far k from e]
    walk_at "go"
    refine Rd.new (by simp) fun p2 np2 => ?_
    exact q _ p2 _ (s1.trans (Same.put np2)) (by cases z : H p2 with | none => rfl | some o => rw [s1 _ _ z] at np2; cases np2) upd_same rfl
set_option maxHeartbeats 8000000 in
theorem ok_reach (T : Txt K mg) (n : Nat) (l : Nat) (M : ∃ (f : Addr) (fd : FuncData), FnOk P w K mg base CX0 l f fd ["q", "k"] (spPair K n okM) ∧ mg "_most_and_reach" = some (.ref f) ∧ PySem.W.keepIn K (.ref f) = true ∧ L2.Binds K fd ["q", "k"] []) :
    ∃ (f : Addr) (fd : FuncData), FnOk P w K mg base CX0 (l + 1) f fd ["q", "k"] (spFar K n true) ∧ mg "reach" = some (.ref f) ∧ PySem.W.keepIn K (.ref f) = true ∧ L2.Binds K fd ["q", "k"] [] := by
  obtain ⟨f, fd, F, g, bi⟩ := T.d_reach
  obtain ⟨f__most_and_reach, fd__most_and_reach, G__most_and_reach, g__most_and_reach, kp__most_and_reach, b__most_and_reach⟩ := M
  refine ⟨f, fd, ?_, g, F.kp, bi⟩
  refine F.ok sc_reach (fun vs H Q E h => ?_) (fun cdv A outer s H vs Q E hr h => ?_)
  · obtain ⟨v, k, D, rfl, _⟩ := h; rfl
  · obtain ⟨v, k, D, rfl, h, hn, h0, q⟩ := h
    refine ⟨_, (pss_one (ps_ret (pe_ix ix_tup (pe_call G__most_and_reach (hr.mono (by omega)) (by rfl) g__most_and_reach kp__most_and_reach b__most_and_reach .nil pass0 (pa_cons (pv 0) (pa_cons (pv 1) pa_nil))) pe_int (fun _ _ => rfl)))), ?_⟩
    refine Rd.start (σ' := [some v, some (.int k)]) rfl ?_
    try dsimp only [cxOf, Cx.nox, Cx.wish]
    walk_at "go"
    refine pair_go h hn h0 fun H1 p x s1 np hp e => ?_
    walk_at "go"
    cases e
    exact q _ s1
theorem okU_of {D : Den} {top x k : Int} (e : D.most = top) (e2 : D.far k = cap top x) : okU D k x := by show cap D.most x = D.far k; rw [e, e2]
set_option maxHeartbeats 16000000 in
theorem ok_unc (T : Txt K mg) (n : Nat) (M : ∃ (f : Addr) (fd : FuncData), FnOk P w K mg base CX0 (3 * n + 3) f fd ["q", "k"] (spPair K n okM) ∧ mg "_most_and_reach" = some (.ref f) ∧ PySem.W.keepIn K (.ref f) = true ∧ L2.Binds K fd ["q", "k"] [])
    (A : ∃ (f : Addr) (fd : FuncData), FnOk P w K mg base CX0 (3 * n + 3) f fd ["a", "k"] (spFar K n false) ∧ mg "angle_reach" = some (.ref f) ∧ PySem.W.keepIn K (.ref f) = true ∧ L2.Binds K fd ["a", "k"] []) :
    ∃ (f : Addr) (fd : FuncData), FnOk P w K mg base CX0 (3 * n + 4) f fd ["q", "k"] (spPair K (n + 1) okU) ∧ mg "_uncapped" = some (.ref f) ∧ PySem.W.keepIn K (.ref f) = true ∧ L2.Binds K fd ["q", "k"] [] := by
  obtain ⟨f, fd, F, g, bi⟩ := T.d__uncapped
  obtain ⟨f__most_and_reach, fd__most_and_reach, G__most_and_reach, g__most_and_reach, kp__most_and_reach, b__most_and_reach⟩ := M
  obtain ⟨f_angle_reach, fd_angle_reach, G_angle_reach, g_angle_reach, kp_angle_reach, b_angle_reach⟩ := A
  obtain ⟨f__rounded_up, fd__rounded_up, G__rounded_up, g__rounded_up, kp__rounded_up, b__rounded_up⟩ := ok_rup (P := P) (w := w) (base := base) T
  obtain ⟨f__wave_reach, fd__wave_reach, G__wave_reach, g__wave_reach, kp__wave_reach, b__wave_reach⟩ := ok_wfar (P := P) (w := w) (base := base) T
  obtain ⟨_, cWAVE_MOST⟩ := T.c_WAVE_MOST
  refine ⟨f, fd, ?_, g, F.kp, bi⟩
  refine F.ok sc__uncapped (fun vs H Q E h => ?_) (fun cdv A outer s H vs Q E hr h => ?_)
  · obtain ⟨v, k, D, rfl, _⟩ := h; rfl
  · obtain ⟨v, k, D, rfl, h, hn, h0, q⟩ := h
    refine ⟨_, (pss_cons (ps_set (i := 2) sc__uncapped.nd rfl (by first | exact Or.inl rfl | exact Or.inr rfl) (pe_ix ix_tup (pv 0) pe_int (fun _ _ => rfl)))
      (pss_cons (ps_if (pt_cmpR op_eq (pv 2) pe_str (nomark _)) (pss_one (ps_ret (pe_tup (pa_cons (pe_callB call_abs (by rfl) T.m_abs (by decide +kernel) (pa_cons (pe_ix ix_tup (pv 0) pe_int (fun _ _ => rfl)) pa_nil)) (pa_cons pe_int pa_nil))))) pss_nil)
      (pss_cons (ps_if (pt_cmpR op_eq (pv 2) pe_str (nomark _)) (pss_one (ps_ret (pe_tup (pa_cons (pe_glob (v := .int (1000000)) rfl cWAVE_MOST ⟨_, rfl⟩) (pa_cons (pe_call G__wave_reach (hr.mono (by omega)) (by rfl) g__wave_reach kp__wave_reach b__wave_reach .nil pass0 (pa_cons (pe_call G_angle_reach (hr.mono (by omega)) (by rfl) g_angle_reach kp_angle_reach b_angle_reach .nil pass0 (pa_cons (pe_ix ix_tup (pv 0) pe_int (fun _ _ => rfl)) (pa_cons (pv 1) pa_nil))) pa_nil)) pa_nil))))) pss_nil)
      (pss_cons (ps_if (pt_cmpR op_eq (pv 2) pe_str (nomark _)) (pss_cons (ps_setLc (i := 3) (own := [("v", 9)]) (g := gName 9) (tt := tYes) (by rfl) sc__uncapped.nd rfl rfl (sw_true rfl rfl rfl (by decide +kernel)) (pi_tup (pe_slice sl_tup (pv 0) (po_some pe_int) po_none)) (blkOk_by (own := [("v", 9)]) (N := ["q", "k", "word", "parts", "top", "far", "size", "other_top", "other_far", "v", "part"]) (sc := defScope s__uncapped) (by decide +kernel)) (fun _ _ _ _ _ => (pg_name (i := 9) sc__uncapped.nd rfl (by first | exact Or.inl rfl | exact Or.inr rfl))) (fun _ _ _ _ _ => pts_nil) (fun _ _ _ _ _ => (pe_call G__most_and_reach (hr.mono (by omega)) (by rfl) g__most_and_reach kp__most_and_reach b__most_and_reach .nil pass0 (pa_cons (pv 9) (pa_cons (pv 1) pa_nil)))))
      (pss_one (ps_ret (pe_tup (pa_cons (pe_callB (cr_sum rfl) (by rfl) T.m_sum (by decide +kernel) (pa_cons (pe_lc (own := [("part", 10)]) (g := gName 10) (tt := tYes) (by rfl) sc__uncapped.nd (pi_list (pv 3)) (blkOk_by (own := [("part", 10)]) (N := ["q", "k", "word", "parts", "top", "far", "size", "other_top", "other_far", "v", "part"]) (sc := defScope s__uncapped) (by decide +kernel)) (fun _ _ _ _ _ => (pg_name (i := 10) sc__uncapped.nd rfl (by first | exact Or.inl rfl | exact Or.inr rfl))) (fun _ _ _ _ _ => pts_nil) (fun _ _ _ _ _ => (pe_ix (r := rIxT K) ix_tup (pv 10) pe_int (fun _ _ => rfl)))) pa_nil)) (pa_cons (pe_callB (cr_sum rfl) (by rfl) T.m_sum (by decide +kernel) (pa_cons (pe_lc (own := [("part", 10)]) (g := gName 10) (tt := tYes) (by rfl) sc__uncapped.nd (pi_list (pv 3)) (blkOk_by (own := [("part", 10)]) (N := ["q", "k", "word", "parts", "top", "far", "size", "other_top", "other_far", "v", "part"]) (sc := defScope s__uncapped) (by decide +kernel)) (fun _ _ _ _ _ => (pg_name (i := 10) sc__uncapped.nd rfl (by first | exact Or.inl rfl | exact Or.inr rfl))) (fun _ _ _ _ _ => pts_nil) (fun _ _ _ _ _ => (pe_ix (r := rIxT K) ix_tup (pv 10) pe_int (fun _ _ => rfl)))) pa_nil)) pa_nil)))))) pss_nil)
      (pss_cons (ps_asg (pe_call G__most_and_reach (hr.mono (by omega)) (by rfl) g__most_and_reach kp__most_and_reach b__most_and_reach .nil pass0 (pa_cons (pe_ix ix_tup (pv 0) pe_int (fun _ _ => rfl)) (pa_cons (pv 1) pa_nil))) (pg_tup (by rfl) (pgs_cons (pg_name (i := 4) sc__uncapped.nd rfl (by first | exact Or.inl rfl | exact Or.inr rfl)) (pgs_cons (pg_name (i := 5) sc__uncapped.nd rfl (by first | exact Or.inl rfl | exact Or.inr rfl)) pgs_nil))))
      (pss_cons (ps_if (pt_cmpR op_eq (pv 2) pe_str (nomark _)) (pss_cons (ps_set (i := 6) sc__uncapped.nd rfl (by first | exact Or.inl rfl | exact Or.inr rfl) (pe_callB call_abs (by rfl) T.m_abs (by decide +kernel) (pa_cons (pe_ix ix_tup (pv 0) pe_int (fun _ _ => rfl)) pa_nil)))
      (pss_one (ps_ret (pe_tup (pa_cons (pe_call G__rounded_up (hr.mono (by omega)) (by rfl) g__rounded_up kp__rounded_up b__rounded_up .nil pass0 (pa_cons (pe_op op_mul (pv 4) (pv 6)) (pa_cons (pe_ix ix_tup (pv 0) pe_int (fun _ _ => rfl)) pa_nil))) (pa_cons (pe_call G__rounded_up (hr.mono (by omega)) (by rfl) g__rounded_up kp__rounded_up b__rounded_up .nil pass0 (pa_cons (pe_op op_mul (pv 5) (pv 6)) (pa_cons (pe_ix ix_tup (pv 0) pe_int (fun _ _ => rfl)) pa_nil))) pa_nil)))))) pss_nil)
      (pss_cons (ps_if (pt_cmpR op_eq (pv 2) pe_str (nomark _)) (pss_cons (ps_asg (pe_call G__most_and_reach (hr.mono (by omega)) (by rfl) g__most_and_reach kp__most_and_reach b__most_and_reach .nil pass0 (pa_cons (pe_ix ix_tup (pv 0) pe_int (fun _ _ => rfl)) (pa_cons (pv 1) pa_nil))) (pg_tup (by rfl) (pgs_cons (pg_name (i := 7) sc__uncapped.nd rfl (by first | exact Or.inl rfl | exact Or.inr rfl)) (pgs_cons (pg_name (i := 8) sc__uncapped.nd rfl (by first | exact Or.inl rfl | exact Or.inr rfl)) pgs_nil))))
      (pss_one (ps_ret (pe_tup (pa_cons (pe_call G__rounded_up (hr.mono (by omega)) (by rfl) g__rounded_up kp__rounded_up b__rounded_up .nil pass0 (pa_cons (pe_op op_mulW (pv 4) (pv 7)) (pa_cons (pe_ix ix_tup (pv 0) pe_int (fun _ _ => rfl)) pa_nil))) (pa_cons (pe_call G__rounded_up (hr.mono (by omega)) (by rfl) g__rounded_up kp__rounded_up b__rounded_up .nil pass0 (pa_cons (pe_op op_add (pe_op op_mulW (pv 4) (pv 8)) (pe_op op_mulW (pv 7) (pv 5))) (pa_cons (pe_ix ix_tup (pv 0) pe_int (fun _ _ => rfl)) pa_nil))) pa_nil)))))) pss_nil)
      (pss_one (ps_ret (pe_tup (pa_cons (pv 4) (pa_cons (pv 5) pa_nil)))))))))))), ?_⟩
    refine Rd.start (σ' := [some v, some (.int k), none, none, none, none, none, none, none, none, none]) rfl ?_
    try dsimp only [cxOf, Cx.nox, Cx.wish]
    have fresh : ∀ {H1 : Hp} {p : Addr}, Same H H1 → H1 p = none → H p = none := fun s n => s.free n
    cases h with
    | @qnum _ p i h l =>
      walk_at "go"
      refine Rd.new (by simp) fun p2 np2 => ?_
      exact q _ p2 _ (Same.put np2) np2 upd_same (okU_of (top := ab i) rfl rfl)
    | @qwave _ p b g h l =>
      walk_at "go"
      refine far_go l (by omega) h0 fun H1 s1 => ?_
      walk_at "go"
      refine wfar_go ?_
      walk_at "go"
      refine Rd.new (by simp) fun p2 np2 => ?_
      exact q _ p2 _ (s1.trans (Same.put np2)) (s1.free np2) upd_same (okU_of (top := 1000000) rfl rfl)
    | @qsum _ p xs gs h e l0 l1 l =>
      walk_at "go"
      refine Rd.slT1 h fun p2 n2 => ?_
      walk_at "go"
      have sp : Same H (upd H p2 (.tup xs)) := Same.put n2
      refine Rd.lctGo (σ0 := [some (.ref p), some (.int k), some (.str "sum"), none, none, none, none, none, none, none, none]) rfl (SqT.of upd_same)
        (fun D i H' => ∃ ps : List Addr, upd H p2 (.tup xs) D = none ∧ H' D = some (.lst (ps.map V.ref)) ∧ ps.length = i ∧ (∀ (j : Nat) a g, ps[j]? = some a → gs[j]? = some g → H' a = some (.tup [.int g.most, .int (g.far k)])) ∧ Same (upd H p2 (.tup xs)) H')
        (fun D nD => ⟨[], nD, upd_same, rfl, fun j a g hx => by simp at hx, Same.put nD⟩) (fun D i H' _ h => by obtain ⟨ps, _, _, _, _, sm⟩ := h; exact sm.seqT (SqT.of upd_same)) (fun D i x H' hx h => ?_) (fun D H' nD h => ?_)
      · obtain ⟨ps, nD, hD, lp, hP, sm⟩ := h
        walk_at "go"
        have hi : i < gs.length := by rw [← e]; exact (List.getElem?_eq_some_iff.mp hx).1
        refine pair_go ((l i x gs[i] hx (List.getElem?_eq_getElem hi)).sub (TupK.same (sp.trans sm))) (by omega) h0 fun H1 a y s1 na ha ey => ?_
        have hD1 := s1 _ _ hD
        refine Rd.lcn hD1 (by rw [List.length_map]; omega) ⟨ps ++ [a], nD, by rw [upd_same, List.map_append]; rfl, by rw [List.length_append, lp]; rfl, fun j b g hb hg => ?_, Same.mut (sm.trans s1) nD⟩
        have aD : ∀ {b : Addr} {u : List V}, H1 b = some (.tup u) → b ≠ D := fun z => ne_of z hD1 (by intro z2; cases z2)
        by_cases hj : j < i
        · rw [List.getElem?_append_left (by omega)] at hb
          have z := s1 _ _ (hP j b g hb hg)
          exact keepN (aD z) z
        · have ej : j = i := by
            have := (List.getElem?_eq_some_iff.mp hb).1
            rw [List.length_append, List.length_singleton] at this
            omega
          subst ej
          rw [List.getElem?_append_right (by omega), lp] at hb
          simp at hb
          subst hb
          rw [List.getElem?_eq_getElem hi] at hg
          cases hg
          cases ey
          exact keepN (aD ha) ha
      · obtain ⟨ps, nD2, hD, lp, hP, sm⟩ := h
        walk_at "go"
        have hl2 : ps.length = gs.length := by omega
        have each : ∀ (i : Nat) (x : V), (ps.map V.ref)[i]? = some x → ∃ a g, x = .ref a ∧ gs[i]? = some g ∧ ps[i]? = some a ∧ H' a = some (.tup [.int g.most, .int (g.far k)]) := by
          intro i x hx
          rw [List.getElem?_map] at hx
          cases z : ps[i]? with
          | none => rw [z] at hx; cases hx
          | some a =>
            rw [z] at hx
            cases hx
            have hi : i < gs.length := by rw [← hl2]; exact (List.getElem?_eq_some_iff.mp z).1
            exact ⟨a, gs[i], rfl, List.getElem?_eq_getElem hi, rfl, hP i a gs[i] z (List.getElem?_eq_getElem hi)⟩
        refine Rd.lclMap (ys := (gs.map fun g => g.most).map V.int) (σ0 := [some (.ref p), some (.int k), some (.str "sum"), some (.ref D), none, none, none, none, none, none, none]) rfl (SqL.of hD) (by simp [hl2]) (by simp; omega) (fun i x y H2 N hx hy sm2 hN => ?_) (fun D2 H2 nD3 hD2 sm2 => ?_)
        · obtain ⟨a, g, rfl, hg, _, ha⟩ := each i x hx
          rw [List.map_map, List.getElem?_map, hg] at hy
          cases hy
          have ha2 := sm2 _ _ ha
          walk_at "go"
          exact hN _ (Same.refl _)
        walk_at "go"
        refine Rd.sum1 (SqL.of hD2) ?_
        walk_at "go"
        have hDD := sm2 _ _ hD
        refine Rd.lclMap (ys := (gs.map fun g => g.far k).map V.int) (σ0 := [some (.ref p), some (.int k), some (.str "sum"), some (.ref D), none, none, none, none, none, none, none]) rfl (SqL.of hDD) (by simp [hl2]) (by simp; omega) (fun i x y H3 N hx hy sm3 hN => ?_) (fun D3 H3 nD4 hD3 sm3 => ?_)
        · obtain ⟨a, g, rfl, hg, _, ha⟩ := each i x hx
          rw [List.map_map, List.getElem?_map, hg] at hy
          cases hy
          have ha2 := sm3 _ _ (sm2 _ _ ha)
          walk_at "go"
          exact hN _ (Same.refl _)
        walk_at "go"
        refine Rd.sum1 (SqL.of hD3) ?_
        walk_at "go"
        refine Rd.new (by simp) fun p5 np5 => ?_
        have S5 := ((sp.trans sm).trans sm2).trans sm3
        exact q _ p5 _ (S5.trans (Same.put np5)) (S5.free np5) upd_same (okU_of (top := (gs.map fun v => v.most).sum) rfl rfl)
    | @qshare _ p b g i d h l li ld =>
      obtain ⟨li1, li2⟩ := li
      obtain ⟨ld1, ld2⟩ := ld
      have gg := l.good
      have ai := ab_nn i
      have ai2 : (if i < 0 then -i else i) ≤ 1000000000000 := by split <;> omega
      have ai1 : 0 ≤ (if i < 0 then -i else i) := by split <;> omega
      walk_at "go"
      refine pair_go l (by omega) h0 fun H1 a y s1 na ha ey => ?_
      cases ey
      have h1 := s1.seqT h
      walk_at "go"
      refine int2_go ⟨ld1, ld2⟩ ?_
      walk_at "go"
      refine int2_go ⟨ld1, ld2⟩ ?_
      walk_at "go"
      refine Rd.new (by simp) fun p2 np2 => ?_
      exact q _ p2 _ (s1.trans (Same.put np2)) (s1.free np2) upd_same (okU_of (top := rup (g.most * ab i) d) rfl rfl)
    | @qprod _ p b c g f d h l l2 ld hb =>
      obtain ⟨ld1, ld2⟩ := ld
      have gg := l.good
      have gf := l2.good
      obtain ⟨gm, fm⟩ := hb
      have bp := BM_pos
      have g0 := gg.mnn
      have f0 := gf.mnn
      have gfar := gg.fle rfl k h0
      have ffar := gf.fle rfl k h0
      have gfn := gg.fnn k h0
      have ffn := gf.fnn k h0
      have W1 : CMulW g.most f.most := mulB (by omega) (by omega) (by omega) (by omega)
      have W2 : CMulW g.most (f.far k) := mulB (by omega) (by omega) (by omega) (by omega)
      have W3 : CMulW f.most (g.far k) := mulB (by omega) (by omega) (by omega) (by omega)
      walk_at "go"
      refine pair_go l (by omega) h0 fun H1 a y s1 na ha ey => ?_
      cases ey
      have h1 := s1.seqT h
      walk_at "go"
      refine pair_go (l2.sub (TupK.same s1)) (by omega) h0 fun H2 a2 y2 s2 na2 ha2 ey2 => ?_
      cases ey2
      have h2 := s2.seqT h1
      walk_at "go"
      refine int2_go ⟨ld1, ld2⟩ ?_
      walk_at "go"
      refine int2_go ⟨ld1, ld2⟩ ?_
      walk_at "go"
      refine Rd.new (by simp) fun p2 np2 => ?_
      exact q _ p2 _ ((s1.trans s2).trans (Same.put np2)) ((s1.trans s2).free np2) upd_same (okU_of (top := rup (g.most * f.most) d) rfl rfl)
    | @qlater _ p b g i h l li =>
      have gg := l.good
      have c1 := gg.fle rfl k h0
      walk_at "go"
      refine pair_go l (by omega) h0 fun H1 a y s1 na ha ey => ?_
      cases ey
      walk_at "go"
      refine Rd.new (by simp) fun p2 np2 => ?_
      refine q _ p2 _ (s1.trans (Same.put np2)) (s1.free np2) upd_same ?_
      show cap g.most (g.far k) = g.far k
      unfold cap
      rw [if_neg (by omega)]
set_option maxHeartbeats 16000000 in
theorem ok_ang (T : Txt K mg) (n : Nat) (R : ∃ (f : Addr) (fd : FuncData), FnOk P w K mg base CX0 (3 * n + 4) f fd ["q", "k"] (spFar K n true) ∧ mg "reach" = some (.ref f) ∧ PySem.W.keepIn K (.ref f) = true ∧ L2.Binds K fd ["q", "k"] [])
    (A : ∃ (f : Addr) (fd : FuncData), FnOk P w K mg base CX0 (3 * n + 3) f fd ["a", "k"] (spFar K n false) ∧ mg "angle_reach" = some (.ref f) ∧ PySem.W.keepIn K (.ref f) = true ∧ L2.Binds K fd ["a", "k"] []) :
    ∃ (f : Addr) (fd : FuncData), FnOk P w K mg base CX0 (3 * n + 5) f fd ["a", "k"] (spFar K (n + 1) false) ∧ mg "angle_reach" = some (.ref f) ∧ PySem.W.keepIn K (.ref f) = true ∧ L2.Binds K fd ["a", "k"] [] := by
  obtain ⟨f, fd, F, g, bi⟩ := T.d_angle_reach
  obtain ⟨f_reach, fd_reach, G_reach, g_reach, kp_reach, b_reach⟩ := R
  obtain ⟨f_angle_reach, fd_angle_reach, G_angle_reach, g_angle_reach, kp_angle_reach, b_angle_reach⟩ := A
  obtain ⟨f__rounded_up, fd__rounded_up, G__rounded_up, g__rounded_up, kp__rounded_up, b__rounded_up⟩ := ok_rup (P := P) (w := w) (base := base) T
  refine ⟨f, fd, ?_, g, F.kp, bi⟩
  refine F.ok sc_angle_reach (fun vs H Q E h => ?_) (fun cdv A outer s H vs Q E hr h => ?_)
  · obtain ⟨v, k, D, rfl, _⟩ := h; rfl
  · obtain ⟨v, k, D, rfl, h, hn, h0, q⟩ := h
    refine ⟨_, (pss_cons (ps_if (pt_cmpR op_eq (pe_ix ix_tup (pv 0) pe_int (fun _ _ => rfl)) pe_str (nomark _)) (pss_one (ps_ret (pe_call G__rounded_up (hr.mono (by omega)) (by rfl) g__rounded_up kp__rounded_up b__rounded_up .nil pass0 (pa_cons (pe_op op_mul (pe_callB call_abs (by rfl) T.m_abs (by decide +kernel) (pa_cons (pe_ix ix_tup (pv 0) pe_int (fun _ _ => rfl)) pa_nil)) (pv 1)) (pa_cons (pe_ix ix_tup (pv 0) pe_int (fun _ _ => rfl)) pa_nil))))) pss_nil)
      (pss_cons (ps_if (pt_cmpR op_eq (pe_ix ix_tup (pv 0) pe_int (fun _ _ => rfl)) pe_str (nomark _)) (pss_one (ps_ret (pe_op op_add (pe_call G_angle_reach (hr.mono (by omega)) (by rfl) g_angle_reach kp_angle_reach b_angle_reach .nil pass0 (pa_cons (pe_ix ix_tup (pv 0) pe_int (fun _ _ => rfl)) (pa_cons (pv 1) pa_nil))) (pe_call G_reach (hr.mono (by omega)) (by rfl) g_reach kp_reach b_reach .nil pass0 (pa_cons (pe_ix ix_tup (pv 0) pe_int (fun _ _ => rfl)) (pa_cons (pv 1) pa_nil)))))) pss_nil)
      (pss_one (ps_ret (pe_op op_add (pe_call G_angle_reach (hr.mono (by omega)) (by rfl) g_angle_reach kp_angle_reach b_angle_reach .nil pass0 (pa_cons (pe_ix ix_tup (pv 0) pe_int (fun _ _ => rfl)) (pa_cons (pv 1) pa_nil))) (pe_call G_angle_reach (hr.mono (by omega)) (by rfl) g_angle_reach kp_angle_reach b_angle_reach .nil pass0 (pa_cons (pe_ix ix_tup (pv 0) pe_int (fun _ _ => rfl)) (pa_cons (pv 1) pa_nil)))))))), ?_⟩
    refine Rd.start (σ' := [some v, some (.int k)]) rfl ?_
    try dsimp only [cxOf, Cx.nox, Cx.wish]
    cases h with
    | @aturn _ p s i d h ls li ld =>
      obtain ⟨li1, li2⟩ := li
      obtain ⟨ld1, ld2⟩ := ld
      have ai2 : (if i < 0 then -i else i) ≤ 1000000000000 := by split <;> omega
      have ai1 : 0 ≤ (if i < 0 then -i else i) := by split <;> omega
      walk_at "go"
      refine int2_go ⟨ld1, ld2⟩ ?_
      exact q _ (Same.refl _)
    | @amoved _ p b c g f h l l2 =>
      walk_at "go"
      refine far_go l (by omega) h0 fun H1 s1 => ?_
      have h1 := s1.seqT h
      walk_at "go"
      refine far_go (l2.sub (TupK.same s1)) (by omega) h0 fun H2 s2 => ?_
      walk_at "go"
      exact q _ (s1.trans s2)
    | @aminus _ p b c g f h l l2 =>
      walk_at "go"
      refine far_go l (by omega) h0 fun H1 s1 => ?_
      have h1 := s1.seqT h
      walk_at "go"
      refine far_go (l2.sub (TupK.same s1)) (by omega) h0 fun H2 s2 => ?_
      walk_at "go"
      exact q _ (s1.trans s2)
theorem ok_reaches (T : Txt K mg) : ∀ n : Nat, (∃ (f : Addr) (fd : FuncData), FnOk P w K mg base CX0 (3 * n + 3) f fd ["q", "k"] (spPair K n okM) ∧ mg "_most_and_reach" = some (.ref f) ∧ PySem.W.keepIn K (.ref f) = true ∧ L2.Binds K fd ["q", "k"] []) ∧
    (∃ (f : Addr) (fd : FuncData), FnOk P w K mg base CX0 (3 * n + 3) f fd ["a", "k"] (spFar K n false) ∧ mg "angle_reach" = some (.ref f) ∧ PySem.W.keepIn K (.ref f) = true ∧ L2.Binds K fd ["a", "k"] []) := by
  intro n
  induction n with
  | zero =>
    obtain ⟨fq, fdq, Fq, gq, bq⟩ := T.d__most_and_reach
    obtain ⟨fa, fda, Fa, ga, ba⟩ := T.d_angle_reach
    exact ⟨⟨fq, fdq, never.imp (fun vs H Q E h => by obtain ⟨v, t, D, _, h, _⟩ := h; cases h), gq, Fq.kp, bq⟩, ⟨fa, fda, never.imp (fun vs H Q E h => by obtain ⟨v, t, D, _, h, _⟩ := h; cases h), ga, Fa.kp, ba⟩⟩
  | succ n ih =>
    obtain ⟨M, A⟩ := ih
    have U := ok_unc T n M A
    have M1 := ok_pairM T (n + 1) _ U
    have R := ok_reach T n _ M
    obtain ⟨f1, fd1, G1, r1⟩ := ok_ang T n R A
    obtain ⟨f2, fd2, G2, r2⟩ := M1
    exact ⟨⟨f2, fd2, G2.mono (by omega), r2⟩, ⟨f1, fd1, G1.mono (by omega), r1⟩⟩
end

end K11

set_option Elab.async false
set_option linter.all false
set_option maxRecDepth 100000
namespace K11
open PySem PySem.Spec PyProof.Rows L2
/-! the reader: steps that need no word -/
local macro_rules | `(tactic| walk_at "hp") => `(tactic| first
  | with_reducible assumption
  | exact upd_same
  | (((with_reducible apply Rd.keep); (with_reducible assumption)); walk_at "hp"))
local macro_rules | `(tactic| walk_at "slot") => `(tactic| first | with_reducible apply Rd.slot0 | with_reducible apply Rd.slot1 | with_reducible apply Rd.slot2 | with_reducible apply Rd.slot3 | with_reducible apply Rd.slot4 | with_reducible apply Rd.slot5 | with_reducible apply Rd.slot6 | with_reducible apply Rd.slot7 | with_reducible apply Rd.slot8 | with_reducible apply Rd.slot9 | with_reducible apply Rd.slot10 | with_reducible apply Rd.slot11 | with_reducible apply Rd.slot12 | with_reducible apply Rd.slot13 | with_reducible apply Rd.slot14 | with_reducible apply Rd.slot15 | with_reducible apply Rd.slot16 | with_reducible apply Rd.slot17 | with_reducible apply Rd.slot18 | with_reducible apply Rd.slot19 | with_reducible apply Rd.slot20 | with_reducible apply Rd.slot21 | with_reducible apply Rd.slot22 | with_reducible apply Rd.slot23)
local macro_rules | `(tactic| walk_at "dg") => `(tactic| first | exact g_left | exact g_at | exact g_cells | exact g_mix)
local macro_rules | `(tactic| walk_at "dp") => `(tactic| first | exact p_left | exact p_at | exact p_mix)
local macro_rules | `(tactic| walk_at "le") => `(tactic| first | decide | (simp only [List.length_map, List.length_append]; omega) | omega)
local macro_rules | `(tactic| walk_at "side") => `(tactic| first
  | with_reducible assumption
  | exact Rd.cmulL (by omega) (by omega)
  | exact Rd.cmulR (by omega) (by omega)
  | exact Rd.cpow (by decide) (by decide) (by decide)
  | exact Rd.cdiv (by omega) (by omega)
  | omega)
local macro_rules | `(tactic| walk_at "sq") => `(tactic| first
  | with_reducible assumption
  | exact SqL.of (by walk_at "hp")
  | exact SqT.of (by walk_at "hp"))
local macro_rules | `(tactic| walk_at "at") => `(tactic| first | with_reducible assumption | exact Rd.at0 | exact Rd.at1 | exact Rd.at2 | exact Rd.at3 | exact Rd.at4)
local macro_rules | `(tactic| walk_at "own") => `(tactic| fail)
local macro_rules | `(tactic| walk_at "rd") => `(tactic| repeat (first
  | ((with_reducible apply Rd.var); exact rfl)
  | with_reducible apply Rd.cst
  | with_reducible apply Rd.notn
  | with_reducible apply Rd.isn
  | with_reducible apply Rd.op
  | with_reducible apply Rd.un
  | with_reducible apply Rd.i0
  | with_reducible apply Rd.u1
  | with_reducible apply Rd.eqI
  | with_reducible apply Rd.neI
  | with_reducible apply Rd.eqB
  | with_reducible apply Rd.eqS
  | with_reducible apply Rd.neS
  | with_reducible apply Rd.tst
  | with_reducible apply Rd.tB
  | with_reducible apply Rd.blk
  | with_reducible apply iteF
  | with_reducible apply iteT
  | with_reducible apply Rd.iteNt
  | with_reducible apply Rd.iteNf
  | with_reducible apply Rd.tnot
  | with_reducible apply Rd.tand
  | with_reducible apply Rd.tor
  | with_reducible apply Rd.andV
  | with_reducible apply Rd.orV
  | with_reducible apply Rd.notV
  | with_reducible apply Rd.ifE
  | with_reducible apply Rd.chain
  | with_reducible apply Rd.anil
  | with_reducible apply Rd.acons
  | with_reducible apply Rd.cbInt
  | with_reducible apply Rd.cbAbs
  | with_reducible apply Rd.cbMin
  | with_reducible apply Rd.cbMax
  | with_reducible apply Rd.cbLen
  | ((with_reducible apply Rd.lenL); (walk_at "sq"))
  | ((with_reducible apply Rd.lenT); (walk_at "sq"))
  | with_reducible apply Rd.min2
  | with_reducible apply Rd.max2
  | with_reducible apply Rd.cbTup
  | with_reducible apply Rd.cbLst
  | with_reducible apply Rd.cb
  | ((with_reducible apply Rd.ixL); (walk_at "sq"); (walk_at "at"))
  | ((with_reducible apply Rd.ixT); (walk_at "sq"); (walk_at "at"))
  | with_reducible apply Rd.call
  | with_reducible apply Rd.int1
  | with_reducible apply Rd.abs1
  | with_reducible apply Rd.lst
  | with_reducible apply Rd.tup
  | with_reducible apply Rd.dget
  | with_reducible apply Rd.dput
  | ((with_reducible apply Rd.dgetS); (walk_at "hp"); (walk_at "dg"))
  | ((with_reducible apply Rd.dputS); (walk_at "hp"); (walk_at "le"); (walk_at "dp"))
  | ((with_reducible apply Rd.i1); (walk_at "side"))
  | with_reducible apply Rd.seq
  | with_reducible apply Rd.nxt
  | with_reducible apply Rd.asg
  | walk_at "slot"
  | with_reducible apply Rd.ret
  | with_reducible apply Rd.retN
  | with_reducible apply Rd.ifS
  | with_reducible apply Rd.drop
  | with_reducible apply Rd.brk
  | with_reducible apply Rd.cnt
  | with_reducible apply Rd.pcons
  | with_reducible apply Rd.pnil
  | with_reducible apply Rd.lcl
  | with_reducible apply Rd.lct
  | with_reducible apply Rd.gname
  | with_reducible apply Rd.yes
  | ((with_reducible apply Rd.wip); (exact rfl))
  | with_reducible apply Rd.forl
  | with_reducible apply Rd.fort
  | with_reducible apply Rd.forr
  | with_reducible apply Rd.forr2
  | with_reducible apply Rd.sl
  | with_reducible apply Rd.part
  | with_reducible apply Rd.part1
  | with_reducible apply Rd.nopart
  | with_reducible apply Rd.lcr1
  | with_reducible apply Rd.asgT
  | ((with_reducible apply Rd.gtup); (walk_at "sq"); (exact rfl))
  | with_reducible apply Rd.gcons
  | with_reducible apply Rd.gnil
  | with_reducible apply Rd.gtupV
  | with_reducible apply Rd.dnotin
  | ((with_reducible apply Rd.dnI); (walk_at "hp"))
  | ((with_reducible apply Rd.dgetI); (walk_at "hp"); (with_reducible assumption))
  | with_reducible apply Rd.asgS
  | with_reducible apply Rd.bm
  | ((with_reducible apply Rd.bmL); (walk_at "hp"))
  | with_reducible apply Rd.neB
  | with_reducible apply Rd.notnN
  | with_reducible apply Rd.notnB
  | with_reducible apply Rd.notnI
  | with_reducible apply Rd.isnN
  | with_reducible apply Rd.isnI
  | walk_at "own"))
local macro_rules | `(tactic| walk_at "dec") => `(tactic| first
  | ((with_reducible apply Rd.iteP); (first | with_reducible assumption | exact rfl | decide | omega))
  | ((with_reducible apply Rd.iteM); (first | with_reducible assumption | exact rfl | decide | omega))
  | ((with_reducible apply Rd.iteNP); (first | with_reducible assumption | exact rfl | decide | omega))
  | ((with_reducible apply Rd.iteNM); (first | with_reducible assumption | exact rfl | decide | omega)))
local macro_rules | `(tactic| walk_at "go") => `(tactic| (walk_at "rd"; (repeat (walk_at "dec"; walk_at "rd"))))
section
open Rd
variable {P : Program} {w : World} {K : PySem.W.Frag} {mg : Str → Option Value} {base : Heap}
/-! the ladder: numbers of ticks with their reaches -/
def ladF (v : V) (a b : Addr) : List (Str × V) := [("_q", v), ("_steps", .ref a), ("_reaches", .ref b)]
theorem lad_q (v : V) (a b : Addr) : (ladF v a b).lookup ("_q" : Str) = some v := by unfold ladF; exact List.lookup_cons_self
theorem lad_s (v : V) (a b : Addr) : (ladF v a b).lookup ("_steps" : Str) = some (V.ref a) := by
  unfold ladF
  rw [List.lookup_cons, show (("_steps" : Str) == "_q") = false by decide +kernel]
  exact List.lookup_cons_self
theorem lad_r (v : V) (a b : Addr) : (ladF v a b).lookup ("_reaches" : Str) = some (V.ref b) := by
  unfold ladF
  rw [List.lookup_cons, show (("_reaches" : Str) == "_q") = false by decide +kernel]
  show List.lookup _ (_ :: _) = _
  rw [List.lookup_cons, show (("_reaches" : Str) == "_steps") = false by decide +kernel]
  exact List.lookup_cons_self
local macro_rules | `(tactic| walk_at "lk") => `(tactic| first | exact lad_q _ _ _ | exact lad_s _ _ _ | exact lad_r _ _ _)
local macro_rules | `(tactic| walk_at "own") => `(tactic| first
  | with_reducible apply Rd.fld
  | ((with_reducible apply Rd.fldI); (walk_at "hp"); (with_reducible assumption); (with_reducible assumption); (walk_at "lk"))
  | with_reducible apply Rd.meth)
structure Lad (C : Addr) (H : Hp) (p : Addr) (v : V) (a b : Addr) (ks fs : List Int) : Prop where
  at_ : ∃ dx, H p = some (.ins C dx (ladF v a b))
  st : H a = some (.lst (ks.map V.int))
  re : H b = some (.lst (fs.map V.int))
  ne : a ≠ b
def gss (ks fs : List Int) (i : Nat) (limit : Int) : Int := ks.getD i 0 + (if (limit - fs.getD i 0) * (ks.getD (i + 1) 0 - ks.getD i 0) / (fs.getD (i + 1) 0 - fs.getD i 0) > 1 then (limit - fs.getD i 0) * (ks.getD (i + 1) 0 - ks.getD i 0) / (fs.getD (i + 1) 0 - fs.getD i 0) else 1)
def spGuess (C : Addr) : Sp := fun vs H Q _ => ∃ (p : Addr) (v : V) (a b : Addr) (ks fs : List Int) (i : Nat) (limit : Int), vs = [.ref p, .int i, .int limit] ∧ Lad C H p v a b ks fs ∧ i + 1 < ks.length ∧ ks.length = fs.length ∧
  0 < fs.getD (i + 1) 0 - fs.getD i 0 ∧ (fs.getD (i + 1) 0 - fs.getD i 0).natAbs < 2 ^ 8000 ∧ 0 ≤ ks.getD (i + 1) 0 - ks.getD i 0 ∧ ks.getD (i + 1) 0 - ks.getD i 0 ≤ 1000000 ∧ Q (.int (gss ks fs i limit)) H
theorem at_int {ns : List Int} {i : Nat} (h : i < ns.length) : atI (ns.map V.int) (i : Int) = some (.int (ns.getD i 0)) := by
  refine atI_nat (j := i) ?_
  rw [List.getElem?_map, List.getElem?_eq_getElem h, List.getD_eq_getElem?_getD, List.getElem?_eq_getElem h]
  rfl
theorem at_int1 {ns : List Int} {i : Nat} (h : i + 1 < ns.length) : atI (ns.map V.int) ((i : Int) + 1) = some (.int (ns.getD (i + 1) 0)) := at_int h
set_option maxHeartbeats 4000000 in
theorem ok_guess (T : Txt K mg) {C : Addr} (c : Cls_Ladder K mg C) : ∃ (f : Addr) (fd : FuncData), Meth K C "_guess" f ∧ FnOk P w K mg base CX0 1 f fd ["self", "at", "limit"] (spGuess C) ∧ L2.Binds K fd ["self", "at", "limit"] [] := by
  obtain ⟨f, fd, M, F, bi⟩ := c.m_Ladder___guess
  have cl := c.cl
  have n1 := c.n_steps
  have n2 := c.n_reaches
  refine ⟨f, fd, M, ?_, bi⟩
  refine F.ok sc_Ladder___guess (fun vs H Q E h => ?_) (fun cdv A outer s H vs Q E hr h => ?_)
  · obtain ⟨_, _, _, _, _, _, _, _, rfl, _⟩ := h; rfl
  · obtain ⟨p, v, a, b, ks, fs, i, limit, rfl, L, hi, hl, r0, r1, k0, k1, q⟩ := h
    obtain ⟨⟨dx, hp⟩, hs, hre, ne⟩ := L
    refine ⟨_, (pss_cons (ps_set (i := 3) sc_Ladder___guess.nd rfl (by first | exact Or.inl rfl | exact Or.inr rfl) (pe_op op_sub (pe_ix ix_list (pe_fld (pv 0) rfl) (pe_op op_add (pv 1) pe_int) (fun _ _ => rfl)) (pe_ix ix_list (pe_fld (pv 0) rfl) (pv 1) (fun _ _ => rfl))))
      (pss_cons (ps_set (i := 4) sc_Ladder___guess.nd rfl (by first | exact Or.inl rfl | exact Or.inr rfl) (pe_op op_sub (pe_ix ix_list (pe_fld (pv 0) rfl) (pe_op op_add (pv 1) pe_int) (fun _ _ => rfl)) (pe_ix ix_list (pe_fld (pv 0) rfl) (pv 1) (fun _ _ => rfl))))
      (pss_one (ps_ret (pe_op op_add (pe_ix ix_list (pe_fld (pv 0) rfl) (pv 1) (fun _ _ => rfl)) (pe_callB (call_max2 rfl) (by rfl) T.m_max (by decide +kernel) (pa_cons pe_int (pa_cons (pe_op op_fdivW (pe_op op_mul (pe_op op_sub (pv 2) (pe_ix ix_list (pe_fld (pv 0) rfl) (pv 1) (fun _ _ => rfl))) (pv 3)) (pv 4)) pa_nil)))))))), ?_⟩
    refine Rd.start (σ' := [some (.ref p), some (.int i), some (.int limit), none, none]) rfl ?_
    try dsimp only [cxOf, Cx.nox, Cx.wish]
    have e1 := at_int (ns := ks) (i := i) (by omega)
    have e2 := at_int1 (ns := ks) (i := i) hi
    have e3 := at_int (ns := fs) (i := i) (by omega)
    have e4 := at_int1 (ns := fs) (i := i) (by omega)
    walk_at "go"
    refine Rd.i1 (wide_div r0 r1 (by decide) (by decide)) ?_
    walk_at "go"
    exact q
theorem guess_go {C : Addr} {H : Hp} {Q : VK} {E : XK} {p : Addr} {v : V} {a b : Addr} {ks fs : List Int} {i : Nat} {limit : Int} (L : Lad C H p v a b ks fs) (hi : i + 1 < ks.length) (hl : ks.length = fs.length)
    (r0 : 0 < fs.getD (i + 1) 0 - fs.getD i 0) (r1 : (fs.getD (i + 1) 0 - fs.getD i 0).natAbs < 2 ^ 8000) (k0 : 0 ≤ ks.getD (i + 1) 0 - ks.getD i 0) (k1 : ks.getD (i + 1) 0 - ks.getD i 0 ≤ 1000000) (q : Q (.int (gss ks fs i limit)) H) :
    CALL (spGuess C) [.ref p, .int i, .int limit] H Q E := ⟨p, v, a, b, ks, fs, i, limit, rfl, L, hi, hl, r0, r1, k0, k1, q⟩
/-! the highest one that the limit allows, by halves -/
def spHighest (C : Addr) : Sp := fun vs H Q _ => ∃ (p : Addr) (v : V) (a b : Addr) (ks fs : List Int) (limit : Int), vs = [.ref p, .int limit] ∧ Lad C H p v a b ks fs ∧ 0 < fs.length ∧ fs.length ≤ 1000 ∧ fs.getD 0 0 ≤ limit ∧
  ∀ i : Nat, i < fs.length → fs.getD i 0 ≤ limit → (i + 1 < fs.length → limit < fs.getD (i + 1) 0) → Q (.int i) H
theorem highest_go {C : Addr} {H : Hp} {Q : VK} {E : XK} {p : Addr} {v : V} {a b : Addr} {ks fs : List Int} {limit : Int} (L : Lad C H p v a b ks fs) (h0 : 0 < fs.length) (h1 : fs.length ≤ 1000) (h2 : fs.getD 0 0 ≤ limit)
    (q : ∀ i : Nat, i < fs.length → fs.getD i 0 ≤ limit → (i + 1 < fs.length → limit < fs.getD (i + 1) 0) → Q (.int i) H) : CALL (spHighest C) [.ref p, .int limit] H Q E := ⟨p, v, a, b, ks, fs, limit, rfl, L, h0, h1, h2, q⟩
set_option maxHeartbeats 4000000 in
theorem ok_highest (T : Txt K mg) {C : Addr} (c : Cls_Ladder K mg C) : ∃ (f : Addr) (fd : FuncData), Meth K C "_highest" f ∧ FnOk P w K mg base CX0 1 f fd ["self", "limit"] (spHighest C) ∧ L2.Binds K fd ["self", "limit"] [] := by
  obtain ⟨f, fd, M, F, bi⟩ := c.m_Ladder___highest
  have cl := c.cl
  have n1 := c.n_steps
  have n2 := c.n_reaches
  refine ⟨f, fd, M, ?_, bi⟩
  refine F.ok sc_Ladder___highest (fun vs H Q E h => ?_) (fun cdv A outer s H vs Q E hr h => ?_)
  · obtain ⟨_, _, _, _, _, _, _, rfl, _⟩ := h; rfl
  · obtain ⟨p, v, a, b, ks, fs, limit, rfl, L, h0, h1, h2, q⟩ := h
    obtain ⟨⟨dx, hp⟩, hs, hre, ne⟩ := L
    refine ⟨_, (pss_cons (ps_set (i := 2) sc_Ladder___highest.nd rfl (by first | exact Or.inl rfl | exact Or.inr rfl) pe_int)
      (pss_cons (ps_set (i := 3) sc_Ladder___highest.nd rfl (by first | exact Or.inl rfl | exact Or.inr rfl) (pe_callB call_len_seq (by rfl) T.m_len (by decide +kernel) (pa_cons (pe_fld (pv 0) rfl) pa_nil)))
      (pss_cons (ps_while PassesOwn.never (pt_cmpR op_gt (pe_op op_sub (pv 3) (pv 2)) pe_int (nomark _)) (pss_cons (ps_set (i := 4) sc_Ladder___highest.nd rfl (by first | exact Or.inl rfl | exact Or.inr rfl) (pe_op op_fdivW (pe_op op_add (pv 2) (pv 3)) pe_int))
      (pss_one (ps_if (pt_cmpR op_le (pe_ix ix_list (pe_fld (pv 0) rfl) (pv 4) (fun _ _ => rfl)) (pv 1) (nomark _)) (pss_one (ps_set (i := 2) sc_Ladder___highest.nd rfl (by first | exact Or.inl rfl | exact Or.inr rfl) (pv 4))) (pss_one (ps_set (i := 3) sc_Ladder___highest.nd rfl (by first | exact Or.inl rfl | exact Or.inr rfl) (pv 4)))))))
      (pss_one (ps_ret (pv 2)))))), ?_⟩
    refine Rd.start (σ' := [some (.ref p), some (.int limit), none, none, none]) rfl ?_
    try dsimp only [cxOf, Cx.nox, Cx.wish]
    walk_at "go"
    refine Rd.whl (fun σ H' => ∃ (lo hi : Nat) (x : Option V), σ = [some (.ref p), some (.int limit), some (.int lo), some (.int hi), x] ∧ H' = H ∧ lo < hi ∧ hi ≤ fs.length ∧ fs.getD lo 0 ≤ limit ∧ (hi < fs.length → limit < fs.getD hi 0))
      (fun σ _ => match σ with | [_, _, some (.int lo), some (.int hi), _] => (hi - lo).toNat | _ => 0) ⟨0, fs.length, none, by simp, rfl, h0, Nat.le_refl _, h2, fun z => absurd z (Nat.lt_irrefl _)⟩ (fun σ' H' h => ?_)
    obtain ⟨lo, hi, x, rfl, rfl, g1, g2, g3, g4⟩ := h
    by_cases more : (hi : Int) - lo > 1
    · obtain ⟨m, em⟩ : ∃ m : Nat, ((lo : Int) + hi) / 2 = (m : Int) := ⟨(lo + hi) / 2, by omega⟩
      have e5 : atI (fs.map V.int) (((lo : Int) + hi) / 2) = some (.int (fs.getD m 0)) := by rw [em]; exact at_int (by omega)
      walk_at "go"
      refine Rd.wb ?_
      by_cases le : fs.getD m 0 ≤ limit
      · walk_at "go"
        refine ⟨⟨m, hi, _, by rw [em], rfl, by omega, g2, le, g4⟩, ?_⟩
        show ((hi : Int) - ((lo : Int) + hi) / 2).toNat < ((hi : Int) - lo).toNat
        omega
      · walk_at "go"
        refine ⟨⟨lo, m, _, by rw [em], rfl, by omega, by omega, g3, fun _ => by omega⟩, ?_⟩
        show (((lo : Int) + hi) / 2 - lo).toNat < ((hi : Int) - lo).toNat
        omega
    · walk_at "go"
      exact q lo (by omega) g3 fun z => by
        have e : lo + 1 = hi := by omega
        rw [e] at z ⊢
        exact g4 z
/-! one more -/
def putAt (xs : List Int) (i : Nat) (y : Int) : List Int := xs.take i ++ [y] ++ xs.drop i
theorem put_map (xs : List Int) (i : Nat) (y : Int) : (xs.map V.int).take i ++ [V.int y] ++ (xs.map V.int).drop i = (putAt xs i y).map V.int := by
  unfold putAt
  rw [List.map_append, List.map_append, List.map_take, List.map_drop]
  rfl
def But2 (a b : Addr) (H H' : Hp) : Prop := ∀ c o, c ≠ a → c ≠ b → H c = some o → H' c = some o
def spAdd (K : PySem.W.Frag) (C : Addr) (n : Nat) : Sp := fun vs H Q _ => ∃ (p : Addr) (v : V) (a b : Addr) (ks fs : List Int) (i : Nat) (k : Int) (D : Den), vs = [.ref p, .int i, .int k] ∧ Lad C H p v a b ks fs ∧ Ex K H n true v D ∧ n ≤ 20 ∧ 0 ≤ k ∧ ks.length ≤ 1000 ∧ fs.length ≤ 1000 ∧ i ≤ 1000 ∧
  ∀ H', Lad C H' p v a b (putAt ks i k) (putAt fs i (D.far k)) → But2 a b H H' → Q (.int (D.far k)) H'
theorem add_go {C : Addr} {n : Nat} {H : Hp} {Q : VK} {E : XK} {p : Addr} {v : V} {a b : Addr} {ks fs : List Int} {i : Nat} {k : Int} {D : Den} (L : Lad C H p v a b ks fs) (h : Ex K H n true v D) (hn : n ≤ 20) (h0 : 0 ≤ k) (h1 : ks.length ≤ 1000) (h2 : fs.length ≤ 1000) (h3 : i ≤ 1000)
    (q : ∀ H', Lad C H' p v a b (putAt ks i k) (putAt fs i (D.far k)) → But2 a b H H' → Q (.int (D.far k)) H') : CALL (spAdd K C n) [.ref p, .int i, .int k] H Q E := ⟨p, v, a, b, ks, fs, i, k, D, rfl, L, h, hn, h0, h1, h2, h3, q⟩
set_option maxHeartbeats 4000000 in
theorem ok_add (T : Txt K mg) {C : Addr} (c : Cls_Ladder K mg C) {n l : Nat} (R : ∃ (f : Addr) (fd : FuncData), FnOk P w K mg base CX0 l f fd ["q", "k"] (spFar K n true) ∧ mg "reach" = some (.ref f) ∧ PySem.W.keepIn K (.ref f) = true ∧ L2.Binds K fd ["q", "k"] []) :
    ∃ (f : Addr) (fd : FuncData), Meth K C "_add" f ∧ FnOk P w K mg base CX0 (l + 1) f fd ["self", "at", "k"] (spAdd K C n) ∧ L2.Binds K fd ["self", "at", "k"] [] := by
  obtain ⟨f, fd, M, F, bi⟩ := c.m_Ladder___add
  obtain ⟨f_reach, fd_reach, G_reach, g_reach, kp_reach, b_reach⟩ := R
  have cl := c.cl
  have n1 := c.n_steps
  have n2 := c.n_reaches
  have n3 := c.n_q
  refine ⟨f, fd, M, ?_, bi⟩
  refine F.ok sc_Ladder___add (fun vs H Q E h => ?_) (fun cdv A outer s H vs Q E hr h => ?_)
  · obtain ⟨_, _, _, _, _, _, _, _, _, rfl, _⟩ := h; rfl
  · obtain ⟨p, v, a, b, ks, fs, i, k, D, rfl, L, h, hn, h0, h1, h2, h3, q⟩ := h
    obtain ⟨⟨dx, hp⟩, hs, hre, ne⟩ := L
    refine ⟨_, (pss_cons (ps_set (i := 3) sc_Ladder___add.nd rfl (by first | exact Or.inl rfl | exact Or.inr rfl) (pe_call G_reach (hr.mono (by omega)) (by rfl) g_reach kp_reach b_reach .nil pass0 (pa_cons (pe_fld (pv 0) rfl) (pa_cons (pv 2) pa_nil))))
      (pss_cons (ps_expr (pe_bm (r := Rd.INS) PySem.F.plainAttrs_list PySem.F.slot_list_insert PySem.F.type_list_insert mt_insert (pe_fld (pv 0) rfl) (pa_cons (pv 1) (pa_cons (pv 2) pa_nil))))
      (pss_cons (ps_expr (pe_bm (r := Rd.INS) PySem.F.plainAttrs_list PySem.F.slot_list_insert PySem.F.type_list_insert mt_insert (pe_fld (pv 0) rfl) (pa_cons (pv 1) (pa_cons (pv 3) pa_nil))))
      (pss_one (ps_ret (pv 3)))))), ?_⟩
    refine Rd.start (σ' := [some (.ref p), some (.int i), some (.int k), none]) rfl ?_
    try dsimp only [cxOf, Cx.nox, Cx.wish]
    walk_at "go"
    refine far_go h hn h0 fun H1 s1 => ?_
    have hp1 := s1 _ _ hp
    have hs1 := s1 _ _ hs
    have hre1 := s1 _ _ hre
    walk_at "go"
    refine Rd.ins hs1 (by rw [List.length_map]; exact h1) (by omega) (by omega) ?_
    have pa : p ≠ a := ne_of hp1 hs1 (by intro z; cases z)
    have pb : p ≠ b := ne_of hp1 hre1 (by intro z; cases z)
    have hp2 := keepN (o := .lst ((ks.map V.int).take (i : Int).toNat ++ [.int k] ++ (ks.map V.int).drop (i : Int).toNat)) pa hp1
    have hre2 := keepN (o := .lst ((ks.map V.int).take (i : Int).toNat ++ [.int k] ++ (ks.map V.int).drop (i : Int).toNat)) ne.symm hre1
    walk_at "go"
    refine Rd.ins hre2 (by rw [List.length_map]; exact h2) (by omega) (by omega) ?_
    walk_at "go"
    refine q _ ⟨⟨dx, keepN pb hp2⟩, ?_, ?_, ne⟩ (fun c o n1 n2 e => ?_)
    · refine keepN ne ?_
      rw [← put_map]
      exact upd_same
    · rw [← put_map]
      exact upd_same
    · exact keepN n2 (keepN n1 (s1 _ _ e))
/-! what stands on a ladder: numbers of ticks, each greater than the one before, from 0 to R -/
structure LOk (R : Int) (ks : List Int) : Prop where
  pos : 0 < ks.length
  k0 : ks.getD 0 0 = 0
  inc : ks.Pairwise (· < ·)
  bd : ∀ k ∈ ks, 0 ≤ k ∧ k ≤ R
theorem inc_len : ∀ (ks : List Int) (lo R : Int), ks.Pairwise (· < ·) → (∀ k ∈ ks, lo ≤ k ∧ k ≤ R) → (ks.length : Int) ≤ max 0 (R - lo + 1)
  | [], _, _, _, _ => by simp; omega
  | k :: r, lo, R, h, b => by
    rw [List.pairwise_cons] at h
    have b0 := b k (List.mem_cons_self ..)
    have := inc_len r (k + 1) R h.2 fun x hx => ⟨by have := h.1 x hx; omega, (b x (List.mem_cons_of_mem _ hx)).2⟩
    rw [List.length_cons]
    omega
theorem LOk.len {R : Int} {ks : List Int} (L : LOk R ks) (hR : R ≤ 900) : ks.length ≤ 901 := by
  have := inc_len ks 0 R L.inc L.bd
  omega
theorem getD_mem {ks : List Int} {i : Nat} (h : i < ks.length) : ks.getD i 0 ∈ ks := by
  rw [List.getD_eq_getElem?_getD, List.getElem?_eq_getElem h]
  exact List.getElem_mem h
theorem inc_lt {ks : List Int} (h : ks.Pairwise (· < ·)) {i j : Nat} (hij : i < j) (hj : j < ks.length) : ks.getD i 0 < ks.getD j 0 := by
  rw [List.getD_eq_getElem?_getD, List.getD_eq_getElem?_getD, List.getElem?_eq_getElem hj, List.getElem?_eq_getElem (by omega)]
  exact List.pairwise_iff_getElem.mp h i j (by omega) hj hij
theorem put_len (xs : List Int) {i : Nat} (y : Int) (h : i ≤ xs.length) : (putAt xs i y).length = xs.length + 1 := by
  unfold putAt
  simp
  omega
theorem put_map2 (f : Int → Int) (xs : List Int) (i : Nat) (y : Int) : putAt (xs.map f) i (f y) = (putAt xs i y).map f := by
  unfold putAt
  rw [List.map_append, List.map_append, List.map_take, List.map_drop]
  rfl
theorem put_get (xs : List Int) {i : Nat} (y : Int) (h : i ≤ xs.length) (j : Nat) : (putAt xs i y).getD j 0 = if j < i then xs.getD j 0 else if j = i then y else xs.getD (j - 1) 0 := by
  unfold putAt
  simp only [List.getD_eq_getElem?_getD]
  have hl : (xs.take i).length = i := by rw [List.length_take]; omega
  by_cases a : j < i
  · rw [if_pos a, List.append_assoc, List.getElem?_append_left (by omega), List.getElem?_take_of_lt a]
  · rw [if_neg a, List.append_assoc, List.getElem?_append_right (by omega), hl]
    by_cases e : j = i
    · rw [if_pos e, e, Nat.sub_self]
      rfl
    · rw [if_neg e, show j - i = (j - 1 - i) + 1 by omega]
      show ((y :: xs.drop i)[(j - 1 - i) + 1]?).getD 0 = _
      rw [List.getElem?_cons_succ, List.getElem?_drop, show i + (j - 1 - i) = j - 1 by omega]
theorem LOk.put {R : Int} {ks : List Int} (L : LOk R ks) {i : Nat} {y : Int} (i0 : 0 < i) (hi : i ≤ ks.length) (lo : ks.getD (i - 1) 0 < y) (up : i < ks.length → y < ks.getD i 0) (hy : y ≤ R) : LOk R (putAt ks i y) := by
  have b := (L.bd _ (getD_mem (ks := ks) (i := i - 1) (by omega))).1
  refine ⟨by rw [put_len _ _ hi]; omega, ?_, ?_, fun k hk => ?_⟩
  · rw [put_get _ _ hi, if_pos i0]
    exact L.k0
  · rw [List.pairwise_iff_getElem]
    intro j k hj hk hjk
    have ej : (putAt ks i y)[j] = (putAt ks i y).getD j 0 := by rw [List.getD_eq_getElem?_getD, List.getElem?_eq_getElem hj]; rfl
    have ek : (putAt ks i y)[k] = (putAt ks i y).getD k 0 := by rw [List.getD_eq_getElem?_getD, List.getElem?_eq_getElem hk]; rfl
    rw [put_len _ _ hi] at hj hk
    rw [ej, ek, put_get _ _ hi, put_get _ _ hi]
    have lt : ∀ {a c : Nat}, a < c → c < ks.length → ks.getD a 0 < ks.getD c 0 := fun h1 h2 => inc_lt L.inc h1 h2
    have le1 : ∀ {a : Nat}, a < i → ks.getD a 0 < y := fun {a} h => by
      by_cases e : a = i - 1
      · rw [e]; exact lo
      · have := lt (a := a) (c := i - 1) (by omega) (by omega)
        omega
    have le2 : ∀ {a : Nat}, i ≤ a → a < ks.length → y < ks.getD a 0 := fun {a} h h2 => by
      by_cases e : a = i
      · rw [e]; exact up (by omega)
      · have := lt (a := i) (c := a) (by omega) h2
        have := up (by omega)
        omega
    by_cases a1 : j < i
    · rw [if_pos a1]
      by_cases a2 : k < i
      · rw [if_pos a2]; exact lt hjk (by omega)
      · rw [if_neg a2]
        by_cases a3 : k = i
        · rw [if_pos a3]; exact le1 a1
        · rw [if_neg a3]; exact lt (by omega) (by omega)
    · rw [if_neg a1, if_neg (by omega : ¬ k < i), if_neg (by omega : ¬ k = i)]
      by_cases a3 : j = i
      · rw [if_pos a3]; exact le2 (by omega) (by omega)
      · rw [if_neg a3]; exact lt (by omega) (by omega)
  · unfold putAt at hk
    rcases List.mem_append.mp hk with hk | hk
    · rcases List.mem_append.mp hk with hk | hk
      · exact L.bd k (List.mem_of_mem_take hk)
      · rw [List.mem_singleton] at hk
        omega
    · exact L.bd k (List.mem_of_mem_drop hk)
theorem at_last {ns : List Int} (h : 0 < ns.length) : atI (ns.map V.int) (-1) = some (.int (ns.getD (ns.length - 1) 0)) := by
  have hn : ns ≠ [] := fun z => by rw [z] at h; exact absurd h (by decide)
  have e : ns.getD (ns.length - 1) 0 = ns.getLast hn := by
    rw [List.getD_eq_getElem?_getD, List.getElem?_eq_getElem (by omega), List.getLast_eq_getElem]
    rfl
  rw [e]
  conv => lhs; rw [← List.dropLast_concat_getLast hn]
  rw [List.map_append]
  exact atI_last _ _
def lastI (ks : List Int) : Int := ks.getD (ks.length - 1) 0
def topOf (H : Hp) (a : Addr) : Int := match H a with
  | some (.lst xs) => (match atI xs (-1) with
    | some (.int k) => k
    | _ => 0)
  | _ => 0
theorem topOf_eq {H : Hp} {a : Addr} {ks : List Int} (h : H a = some (.lst (ks.map V.int))) (h0 : 0 < ks.length) : topOf H a = lastI ks := by
  unfold topOf
  rw [h]
  show (match atI (ks.map V.int) (-1) with | some (.int k) => k | _ => 0) = _
  rw [at_last h0]
  rfl
theorem lad_no (v : V) (a b : Addr) {m : Str} (h1 : (m == ("_q" : Str)) = false) (h2 : (m == ("_steps" : Str)) = false) (h3 : (m == ("_reaches" : Str)) = false) : (ladF v a b).lookup m = none := by
  unfold ladF
  rw [List.lookup_cons, h1]
  show List.lookup _ (_ :: _) = _
  rw [List.lookup_cons, h2]
  show List.lookup _ (_ :: _) = _
  rw [List.lookup_cons, h3]
  rfl
local macro_rules | `(tactic| walk_at "lk") => `(tactic| exact lad_no _ _ _ (by decide +kernel) (by decide +kernel) (by decide +kernel))
local macro_rules | `(tactic| walk_at "own") => `(tactic| ((with_reducible apply Rd.methI); (walk_at "hp"); (walk_at "lk")))
theorem But2.tups {a b : Addr} {H H' : Hp} (s : But2 a b H H') {xs ys : List V} (ha : H a = some (.lst xs)) (hb : H b = some (.lst ys)) : TupSub H H' := fun c zs e =>
  s c _ (ne_of e ha (by intro z; cases z)) (ne_of e hb (by intro z; cases z)) e
theorem But2.tupsK {a b : Addr} {H H' : Hp} (s : But2 a b H H') {xs ys : List V} (ha : H a = some (.lst xs)) (hb : H b = some (.lst ys)) : TupK H H' :=
  TupK.two ha hb (by intro u y; cases y) (by intro u y; cases y) (by intro o u y; cases y) (by intro o u y; cases y) s
theorem But2.refl {a b : Addr} {H : Hp} : But2 a b H H := fun _ _ _ _ e => e
theorem But2.trans {a b : Addr} {H H1 H2 : Hp} (s : But2 a b H H1) (t : But2 a b H1 H2) : But2 a b H H2 := fun c o h1 h2 e => t c o h1 h2 (s c o h1 h2 e)
/-! upwards -/
def spClimb (K : PySem.W.Frag) (C : Addr) (n : Nat) : Sp := fun vs H Q _ => ∃ (p : Addr) (v : V) (a b : Addr) (ks : List Int) (limit room R : Int) (D : Den), vs = [.ref p, .int limit, .int room] ∧ Lad C H p v a b ks (ks.map D.far) ∧ Ex K H n true v D ∧ n ≤ 20 ∧ LOk R ks ∧ room ≤ R ∧ R ≤ 900 ∧
  ∀ H' ks', Lad C H' p v a b ks' (ks'.map D.far) → LOk R ks' → (limit < D.far (lastI ks') ∨ room ≤ lastI ks') → But2 a b H H' → Q .non H'
theorem climb_go {C : Addr} {n : Nat} {H : Hp} {Q : VK} {E : XK} {p : Addr} {v : V} {a b : Addr} {ks : List Int} {limit room R : Int} {D : Den} (L : Lad C H p v a b ks (ks.map D.far)) (h : Ex K H n true v D) (hn : n ≤ 20) (O : LOk R ks) (h1 : room ≤ R) (h2 : R ≤ 900)
    (q : ∀ H' ks', Lad C H' p v a b ks' (ks'.map D.far) → LOk R ks' → (limit < D.far (lastI ks') ∨ room ≤ lastI ks') → But2 a b H H' → Q .non H') : CALL (spClimb K C n) [.ref p, .int limit, .int room] H Q E := ⟨p, v, a, b, ks, limit, room, R, D, rfl, L, h, hn, O, h1, h2, q⟩
set_option maxHeartbeats 4000000 in
theorem ok_climb (T : Txt K mg) {C : Addr} (C_Ladder : Cls_Ladder K mg C) {n l : Nat} (R : ∃ (f : Addr) (fd : FuncData), FnOk P w K mg base CX0 l f fd ["q", "k"] (spFar K n true) ∧ mg "reach" = some (.ref f) ∧ PySem.W.keepIn K (.ref f) = true ∧ L2.Binds K fd ["q", "k"] []) :
    ∃ (f : Addr) (fd : FuncData), Meth K C "_climb" f ∧ FnOk P w K mg base CX0 (l + 2) f fd ["self", "limit", "room"] (spClimb K C n) ∧ L2.Binds K fd ["self", "limit", "room"] [] := by
  obtain ⟨f, fd, M, F, bi⟩ := C_Ladder.m_Ladder___climb
  obtain ⟨f_add, fd_add, M_Ladder___add, G_Ladder___add, b_Ladder___add⟩ := ok_add T C_Ladder R
  have cl := C_Ladder.cl
  have n1 := C_Ladder.n_steps
  have n2 := C_Ladder.n_reaches
  refine ⟨f, fd, M, ?_, bi⟩
  refine F.ok sc_Ladder___climb (fun vs H Q E h => ?_) (fun cdv A outer s H vs Q E hr h => ?_)
  · obtain ⟨_, _, _, _, _, _, _, _, _, rfl, _⟩ := h; rfl
  · obtain ⟨p, v, a, b, ks, limit, room, R, D, rfl, L, h, hn, O, h1, h2, q⟩ := h
    refine ⟨_, (pss_one (ps_while PassesOwn.never (PW.pt (pw_and (pt_cmpR op_le (pe_ix ix_list (pe_fld (pv 0) rfl) (pe_un un_neg pe_int) (fun _ _ => rfl)) (pv 1) (nomark _)) (pw_and1 (pt_cmpR op_lt (pe_ix ix_list (pe_fld (pv 0) rfl) (pe_un un_neg pe_int) (fun _ _ => rfl)) (pv 2) (nomark _))))) (pss_one (ps_expr (pe_meth (pv 0) C_Ladder.cl M_Ladder___add G_Ladder___add (hr.mono (by omega)) b_Ladder___add .nil pass0 (pa_cons (pe_callB call_len_seq (by rfl) T.m_len (by decide +kernel) (pa_cons (pe_fld (pv 0) rfl) pa_nil)) (pa_cons (pe_callB (call_min2 rfl) (by rfl) T.m_min (by decide +kernel) (pa_cons (pv 2) (pa_cons (pe_op op_add (pe_op op_mul pe_int (pe_ix ix_list (pe_fld (pv 0) rfl) (pe_un un_neg pe_int) (fun _ _ => rfl))) pe_int) pa_nil))) pa_nil))))))), ?_⟩
    refine Rd.start (σ' := [some (.ref p), some (.int limit), some (.int room)]) rfl ?_
    try dsimp only [cxOf, Cx.nox, Cx.wish]
    refine Rd.whl (fun σ H' => σ = [some (.ref p), some (.int limit), some (.int room)] ∧ ∃ ks', Lad C H' p v a b ks' (ks'.map D.far) ∧ LOk R ks' ∧ But2 a b H H') (fun _ H' => (room - topOf H' a).toNat) ⟨rfl, ks, L, O, .refl⟩ (fun σ' H' z => ?_)
    obtain ⟨rfl, ks', L', O', s'⟩ := z
    obtain ⟨⟨dx, hp⟩, hs, hre, ne⟩ := L'
    have e1 := at_last O'.pos
    have e2 : atI ((ks'.map D.far).map V.int) (-1) = some (.int (D.far (lastI ks'))) := by
      rw [at_last (by rw [List.length_map]; exact O'.pos), List.length_map]
      have : (ks'.map D.far).getD (ks'.length - 1) 0 = D.far (lastI ks') := by
        have := O'.pos
        unfold lastI
        rw [List.getD_eq_getElem?_getD, List.getD_eq_getElem?_getD, List.getElem?_map, List.getElem?_eq_getElem (by omega)]
        rfl
      rw [this]
    change atI (ks'.map V.int) (-1) = some (.int (lastI ks')) at e1
    by_cases c1 : D.far (lastI ks') ≤ limit
    · by_cases c2 : lastI ks' < room
      · have l0 := (O'.bd _ (getD_mem (ks := ks') (i := ks'.length - 1) (by have := O'.pos; omega))).1
        have len := O'.len h2
        have l9 : lastI ks' ≤ 900 := by omega
        change 0 ≤ lastI ks' at l0
        walk_at "go"
        refine Rd.wb ?_
        walk_at "go"
        generalize ey : (if 2 * lastI ks' + 1 < room then 2 * lastI ks' + 1 else room) = y
        have y0 : lastI ks' < y := by rw [← ey]; split <;> omega
        have y1 : y ≤ room := by rw [← ey]; split <;> omega
        refine add_go ⟨⟨dx, hp⟩, hs, hre, ne⟩ (h.sub (But2.tupsK s' L.st L.re)) hn (by omega) (by omega) (by rw [List.length_map]; omega) (by rw [List.length_map]; omega) fun H2 L2 s2 => ?_
        rw [List.length_map] at L2
        have O2 : LOk R (putAt ks' ks'.length y) := O'.put O'.pos (Nat.le_refl _) y0 (fun z => absurd z (Nat.lt_irrefl _)) (by omega)
        rw [put_map2] at L2
        refine ⟨⟨rfl, _, L2, O2, s'.trans s2⟩, ?_⟩
        have t1 := topOf_eq hs O'.pos
        have t2 := topOf_eq L2.st O2.pos
        have t3 : lastI (putAt ks' ks'.length y) = y := by
          unfold lastI
          rw [put_len _ _ (Nat.le_refl _), put_get _ _ (Nat.le_refl _), if_neg (by omega), if_pos (by omega)]
        show (room - topOf H2 a).toNat < (room - topOf H' a).toNat
        rw [t1, t2, t3]
        omega
      · walk_at "go"
        exact q _ ks' ⟨⟨dx, hp⟩, hs, hre, ne⟩ O' (.inr (by omega)) s'
    · walk_at "go"
      exact q _ ks' ⟨⟨dx, hp⟩, hs, hre, ne⟩ O' (.inl (by omega)) s'
/-! the longest one that is sure -/
def stepAt (H : Hp) (a : Addr) (i : Int) : Int := match H a with
  | some (.lst xs) => (match atI xs i with
    | some (.int k) => k
    | _ => 0)
  | _ => 0
theorem stepAt_eq {H : Hp} {a : Addr} {ks : List Int} {i : Nat} (h : H a = some (.lst (ks.map V.int))) (hi : i < ks.length) : stepAt H a (i : Int) = ks.getD i 0 := by
  unfold stepAt
  rw [h]
  show (match atI (ks.map V.int) (i : Int) with | some (.int k) => k | _ => 0) = _
  rw [at_int hi]
/-- the fewest of both bounds, and no longer one is sure -/
def Longest (far : Int → Int) (limit room k : Int) : Prop := 0 ≤ k ∧ k ≤ room ∧ far k ≤ limit ∧ (k = room ∨ limit < far (k + 1))
/-- a bound of what a ladder may meet -/
def Big : Int := 2 ^ 5292
def spLongest (K : PySem.W.Frag) (C : Addr) (n : Nat) : Sp := fun vs H Q _ => ∃ (p : Addr) (v : V) (a b : Addr) (ks : List Int) (limit room R : Int) (D : Den), vs = [.ref p, .int limit, .int room] ∧ Lad C H p v a b ks (ks.map D.far) ∧ Ex K H n true v D ∧ (n ≤ 20 ∧ D.most ≤ Big) ∧ LOk R ks ∧ 0 ≤ limit ∧ 0 ≤ room ∧ room ≤ R ∧ R ≤ 900 ∧
  ∀ H' ks' k, Lad C H' p v a b ks' (ks'.map D.far) → LOk R ks' → Longest D.far limit room k → But2 a b H H' → Q (.int k) H'
theorem longest_go {C : Addr} {n : Nat} {H : Hp} {Q : VK} {E : XK} {p : Addr} {v : V} {a b : Addr} {ks : List Int} {limit room R : Int} {D : Den} (L : Lad C H p v a b ks (ks.map D.far)) (h : Ex K H n true v D) (hn : (n ≤ 20 ∧ D.most ≤ Big)) (O : LOk R ks) (h0 : 0 ≤ limit) (r0 : 0 ≤ room) (h1 : room ≤ R) (h2 : R ≤ 900)
    (q : ∀ H' ks' k, Lad C H' p v a b ks' (ks'.map D.far) → LOk R ks' → Longest D.far limit room k → But2 a b H H' → Q (.int k) H') : CALL (spLongest K C n) [.ref p, .int limit, .int room] H Q E := ⟨p, v, a, b, ks, limit, room, R, D, rfl, L, h, hn, O, h0, r0, h1, h2, q⟩
theorem far_get (f : Int → Int) {ks : List Int} {i : Nat} (h : i < ks.length) : (ks.map f).getD i 0 = f (ks.getD i 0) := by
  rw [List.getD_eq_getElem?_getD, List.getD_eq_getElem?_getD, List.getElem?_map, List.getElem?_eq_getElem h]
  rfl
theorem far_bits {n : Nat} {D : Den} (G : Good true n D) (hm : D.most ≤ Big) {x y : Int} (hx : 0 ≤ x) (hy : 0 ≤ y) : (D.far x - D.far y).natAbs < 2 ^ 8000 := by
  have a1 := G.fle rfl x hx
  have a2 := G.fle rfl y hy
  have b1 := G.fnn x hx
  have b2 := G.fnn y hy
  have f : Big * 2 + 1 ≤ 2 ^ 8000 := by decide +kernel
  have g : ((2 ^ 8000 : Nat) : Int) = 2 ^ 8000 := by rw [Int.natCast_pow]; rfl
  have : ((D.far x - D.far y).natAbs : Int) < ((2 ^ 8000 : Nat) : Int) := by
    rw [g]
    generalize (2 : Int) ^ 8000 = z at *
    generalize Big = z2 at *
    omega
  exact_mod_cast this
theorem gss_in {ks fs : List Int} {i : Nat} {limit : Int} (a : fs.getD i 0 ≤ limit) (b : limit < fs.getD (i + 1) 0) (g : ks.getD (i + 1) 0 - ks.getD i 0 > 1) : ks.getD i 0 < gss ks fs i limit ∧ gss ks fs i limit < ks.getD (i + 1) 0 := by
  unfold gss
  generalize ks.getD (i + 1) 0 = y at *
  generalize ks.getD i 0 = x at *
  generalize fs.getD (i + 1) 0 = fy at *
  generalize fs.getD i 0 = fx at *
  have q : (limit - fx) * (y - x) / (fy - fx) < y - x := by
    refine Int.ediv_lt_of_lt_mul (by omega) ?_
    rw [Int.mul_comm (y - x)]
    exact Int.mul_lt_mul_of_pos_right (by omega) (by omega)
  split <;> omega
set_option maxHeartbeats 8000000 in
theorem ok_longest (T : Txt K mg) {C : Addr} (C_Ladder : Cls_Ladder K mg C) {n l : Nat} (R : ∃ (f : Addr) (fd : FuncData), FnOk P w K mg base CX0 l f fd ["q", "k"] (spFar K n true) ∧ mg "reach" = some (.ref f) ∧ PySem.W.keepIn K (.ref f) = true ∧ L2.Binds K fd ["q", "k"] []) :
    ∃ (f : Addr) (fd : FuncData), Meth K C "longest" f ∧ FnOk P w K mg base CX0 (l + 3) f fd ["self", "limit", "room"] (spLongest K C n) ∧ L2.Binds K fd ["self", "limit", "room"] [] := by
  obtain ⟨f, fd, M, F, bi⟩ := C_Ladder.m_Ladder__longest
  obtain ⟨f_add, fd_add, M_Ladder___add, G_Ladder___add, b_Ladder___add⟩ := ok_add T C_Ladder R
  obtain ⟨f_climb, fd_climb, M_Ladder___climb, G_Ladder___climb, b_Ladder___climb⟩ := ok_climb T C_Ladder R
  obtain ⟨f_guess, fd_guess, M_Ladder___guess, G_Ladder___guess, b_Ladder___guess⟩ := ok_guess (P := P) (w := w) (base := base) T C_Ladder
  obtain ⟨f_highest, fd_highest, M_Ladder___highest, G_Ladder___highest, b_Ladder___highest⟩ := ok_highest (P := P) (w := w) (base := base) T C_Ladder
  have cl := C_Ladder.cl
  have n1 := C_Ladder.n_steps
  have n2 := C_Ladder.n_reaches
  refine ⟨f, fd, M, ?_, bi⟩
  refine F.ok sc_Ladder__longest (fun vs H Q E h => ?_) (fun cdv A outer s H vs Q E hr h => ?_)
  · obtain ⟨_, _, _, _, _, _, _, _, _, rfl, _⟩ := h; rfl
  · obtain ⟨p, v, a, b, ks, limit, room, R, D, rfl, L, h, hn, O, h0, r0, h1, h2, q⟩ := h
    have G := h.good
    refine ⟨_, (pss_cons (ps_expr (pe_meth (pv 0) C_Ladder.cl M_Ladder___climb G_Ladder___climb (hr.mono (by omega)) b_Ladder___climb .nil pass0 (pa_cons (pv 1) (pa_cons (pv 2) pa_nil))))
      (pss_cons (ps_set (i := 3) sc_Ladder__longest.nd rfl (by first | exact Or.inl rfl | exact Or.inr rfl) (pe_meth (pv 0) C_Ladder.cl M_Ladder___highest G_Ladder___highest (hr.mono (by omega)) b_Ladder___highest .nil pass0 (pa_cons (pv 1) pa_nil)))
      (pss_cons (ps_set (i := 4) sc_Ladder__longest.nd rfl (by first | exact Or.inl rfl | exact Or.inr rfl) pe_bl)
      (pss_cons (ps_while PassesOwn.never (PW.pt (pw_and (pt_cmpR op_lt (pe_ix ix_list (pe_fld (pv 0) rfl) (pv 3) (fun _ _ => rfl)) (pv 2) (nomark _)) (pw_and1 (pt_cmpR op_gt (pe_op op_sub (pe_ix ix_list (pe_fld (pv 0) rfl) (pe_op op_add (pv 3) pe_int) (fun _ _ => rfl)) (pe_ix ix_list (pe_fld (pv 0) rfl) (pv 3) (fun _ _ => rfl))) pe_int (nomark _))))) (pss_cons (ps_if (pt_val (pv 4)) (pss_one (ps_set (i := 5) sc_Ladder__longest.nd rfl (by first | exact Or.inl rfl | exact Or.inr rfl) (pe_op op_fdivW (pe_op op_add (pe_ix ix_list (pe_fld (pv 0) rfl) (pv 3) (fun _ _ => rfl)) (pe_ix ix_list (pe_fld (pv 0) rfl) (pe_op op_add (pv 3) pe_int) (fun _ _ => rfl))) pe_int))) (pss_one (ps_set (i := 5) sc_Ladder__longest.nd rfl (by first | exact Or.inl rfl | exact Or.inr rfl) (pe_meth (pv 0) C_Ladder.cl M_Ladder___guess G_Ladder___guess (hr.mono (by omega)) b_Ladder___guess .nil pass0 (pa_cons (pv 3) (pa_cons (pv 1) pa_nil))))))
      (pss_cons (ps_set (i := 4) sc_Ladder__longest.nd rfl (by first | exact Or.inl rfl | exact Or.inr rfl) (pe_not (pv 4)))
      (pss_one (ps_if (pt_cmpR op_le (pe_meth (pv 0) C_Ladder.cl M_Ladder___add G_Ladder___add (hr.mono (by omega)) b_Ladder___add .nil pass0 (pa_cons (pe_op op_add (pv 3) pe_int) (pa_cons (pv 5) pa_nil))) (pv 1) (nomark _)) (pss_one (ps_set (i := 3) sc_Ladder__longest.nd rfl (by first | exact Or.inl rfl | exact Or.inr rfl) (pe_op op_add (pv 3) pe_int))) pss_nil)))))
      (pss_one (ps_ret (pe_callB (call_min2 rfl) (by rfl) T.m_min (by decide +kernel) (pa_cons (pe_ix ix_list (pe_fld (pv 0) rfl) (pv 3) (fun _ _ => rfl)) (pa_cons (pv 2) pa_nil))))))))), ?_⟩
    refine Rd.start (σ' := [some (.ref p), some (.int limit), some (.int room), none, none, none]) rfl ?_
    try dsimp only [cxOf, Cx.nox, Cx.wish]
    obtain ⟨dx, hp⟩ := L.at_
    walk_at "go"
    refine climb_go L h (by omega) O h1 h2 fun H1 ks1 L1 O1 top s1 => ?_
    obtain ⟨dx1, hp1⟩ := L1.at_
    walk_at "go"
    have len1 := O1.len h2
    refine highest_go L1 (by rw [List.length_map]; exact O1.pos) (by rw [List.length_map]; omega) (by rw [far_get _ O1.pos, O1.k0, G.f0]; exact h0) fun i0 i1 i2 i3 => ?_
    rw [List.length_map] at i1 i3
    rw [far_get _ i1] at i2
    walk_at "go"
    refine Rd.whl (fun σ H' => ∃ (i : Nat) (hv : Bool) (x : Option V) (ks' : List Int), σ = [some (.ref p), some (.int limit), some (.int room), some (.int i), some (.bl hv), x] ∧ Lad C H' p v a b ks' (ks'.map D.far) ∧ LOk R ks' ∧ But2 a b H H' ∧ i < ks'.length ∧
        D.far (ks'.getD i 0) ≤ limit ∧ (i + 1 < ks'.length → limit < D.far (ks'.getD (i + 1) 0)) ∧ (i + 1 = ks'.length → room ≤ ks'.getD i 0))
      (fun σ H' => match σ with | [_, _, _, some (.int i), _, _] => (stepAt H' a (i + 1) - stepAt H' a i).toNat | _ => 0)
      ⟨i0, false, none, ks1, rfl, L1, O1, s1, i1, i2, fun z => by have := i3 z; rw [far_get _ z] at this; exact this, fun z => ?_⟩ (fun σ' H' z => ?_)
    · have e : lastI ks1 = ks1.getD i0 0 := by unfold lastI; rw [← z]; rfl
      rw [e] at top
      omega
    obtain ⟨i, hv, x, ks', rfl, L', O', s', j1, j2, j3, j4⟩ := z
    obtain ⟨⟨dx', hp'⟩, hs', hre', ne⟩ := id L'
    have len' := O'.len h2
    have e1 := at_int (ns := ks') (i := i) j1
    have b1 := O'.bd _ (getD_mem j1)
    by_cases c1 : ks'.getD i 0 < room
    · have j5 : i + 1 < ks'.length := by
        rcases Nat.lt_or_ge (i + 1) ks'.length with z | z
        · exact z
        · have := j4 (by omega)
          omega
      have j6 := j3 j5
      have e2 := at_int1 (ns := ks') (i := i) j5
      have b2 := O'.bd _ (getD_mem j5)
      by_cases c2 : ks'.getD (i + 1) 0 - ks'.getD i 0 > 1
      · walk_at "go"
        refine Rd.wb ?_
        have hE := h.sub (But2.tupsK s' L.st L.re)
        have fin : ∀ g : Int, ks'.getD i 0 < g → g < ks'.getD (i + 1) 0 → ∀ (H2 : Hp), Lad C H2 p v a b (putAt ks' (i + 1) g) ((putAt ks' (i + 1) g).map D.far) → LOk R (putAt ks' (i + 1) g) := fun g g1 g2 H2 _ =>
          O'.put (by omega) (by omega) (by rw [Nat.add_sub_cancel]; exact g1) (fun _ => g2) (by omega)
        cases hv with
        | true =>
          walk_at "go"
          have g1 : ks'.getD i 0 < ((ks'.getD i 0 + ks'.getD (i + 1) 0) / 2) := by omega
          have g2 : ((ks'.getD i 0 + ks'.getD (i + 1) 0) / 2) < ks'.getD (i + 1) 0 := by omega
          refine add_go (i := i + 1) L' hE (by omega) (by omega) (by omega) (by rw [List.length_map]; omega) (by omega) fun H2 L2 s2 => ?_
          rw [put_map2] at L2
          have O2 := fin _ g1 g2 H2 L2
          have pl := put_len ks' ((ks'.getD i 0 + ks'.getD (i + 1) 0) / 2) (i := i + 1) (by omega)
          have p0 := put_get ks' ((ks'.getD i 0 + ks'.getD (i + 1) 0) / 2) (i := i + 1) (by omega) i
          have p1 := put_get ks' ((ks'.getD i 0 + ks'.getD (i + 1) 0) / 2) (i := i + 1) (by omega) (i + 1)
          have p2 := put_get ks' ((ks'.getD i 0 + ks'.getD (i + 1) 0) / 2) (i := i + 1) (by omega) (i + 2)
          rw [if_pos (by omega)] at p0
          rw [if_neg (by omega), if_pos rfl] at p1
          rw [if_neg (by omega), if_neg (by omega), show i + 2 - 1 = i + 1 by omega] at p2
          have m1 : stepAt H' a (i : Int) = ks'.getD i 0 := stepAt_eq hs' j1
          have m2 : stepAt H' a ((i : Int) + 1) = ks'.getD (i + 1) 0 := stepAt_eq (i := i + 1) hs' j5
          have m3 : stepAt H2 a (i : Int) = ks'.getD i 0 := (stepAt_eq (i := i) L2.st (by omega)).trans p0
          have m4 : stepAt H2 a ((i : Int) + 1) = ((ks'.getD i 0 + ks'.getD (i + 1) 0) / 2) := (stepAt_eq (i := i + 1) L2.st (by omega)).trans p1
          have m5 : stepAt H2 a ((i : Int) + 1 + 1) = ks'.getD (i + 1) 0 := (stepAt_eq (i := i + 2) L2.st (by omega)).trans p2
          by_cases le : D.far ((ks'.getD i 0 + ks'.getD (i + 1) 0) / 2) ≤ limit
          · walk_at "go"
            refine ⟨⟨i + 1, _, _, _, rfl, L2, O2, s'.trans s2, by omega, by rw [p1]; exact le, fun _ => by rw [show i + 1 + 1 = i + 2 from rfl, p2]; exact j6, fun z => by omega⟩, ?_⟩
            show (stepAt H2 a ((i : Int) + 1 + 1) - stepAt H2 a ((i : Int) + 1)).toNat < (stepAt H' a ((i : Int) + 1) - stepAt H' a i).toNat
            rw [m1, m2, m4, m5]
            omega
          · walk_at "go"
            refine ⟨⟨i, _, _, _, rfl, L2, O2, s'.trans s2, by omega, by rw [p0]; exact j2, fun _ => by rw [p1]; omega, fun z => by omega⟩, ?_⟩
            show (stepAt H2 a ((i : Int) + 1) - stepAt H2 a (i : Int)).toNat < (stepAt H' a ((i : Int) + 1) - stepAt H' a i).toNat
            rw [m1, m2, m3, m4]
            omega
        | false =>
          walk_at "go"
          have f1 := far_get D.far j1
          have f2 := far_get D.far j5
          have gi := gss_in (ks := ks') (fs := ks'.map D.far) (i := i) (limit := limit) (by rw [f1]; exact j2) (by rw [f2]; exact j6) c2
          refine guess_go L' j5 (by rw [List.length_map]) (by rw [f1, f2]; omega) (by rw [f1, f2]; exact far_bits G hn.2 b2.1 b1.1) (by omega) (by omega) ?_
          walk_at "go"
          have g1 : ks'.getD i 0 < (gss ks' (ks'.map D.far) i limit) := gi.1
          have g2 : (gss ks' (ks'.map D.far) i limit) < ks'.getD (i + 1) 0 := gi.2
          refine add_go (i := i + 1) L' hE (by omega) (by omega) (by omega) (by rw [List.length_map]; omega) (by omega) fun H2 L2 s2 => ?_
          rw [put_map2] at L2
          have O2 := fin _ g1 g2 H2 L2
          have pl := put_len ks' (gss ks' (ks'.map D.far) i limit) (i := i + 1) (by omega)
          have p0 := put_get ks' (gss ks' (ks'.map D.far) i limit) (i := i + 1) (by omega) i
          have p1 := put_get ks' (gss ks' (ks'.map D.far) i limit) (i := i + 1) (by omega) (i + 1)
          have p2 := put_get ks' (gss ks' (ks'.map D.far) i limit) (i := i + 1) (by omega) (i + 2)
          rw [if_pos (by omega)] at p0
          rw [if_neg (by omega), if_pos rfl] at p1
          rw [if_neg (by omega), if_neg (by omega), show i + 2 - 1 = i + 1 by omega] at p2
          have m1 : stepAt H' a (i : Int) = ks'.getD i 0 := stepAt_eq hs' j1
          have m2 : stepAt H' a ((i : Int) + 1) = ks'.getD (i + 1) 0 := stepAt_eq (i := i + 1) hs' j5
          have m3 : stepAt H2 a (i : Int) = ks'.getD i 0 := (stepAt_eq (i := i) L2.st (by omega)).trans p0
          have m4 : stepAt H2 a ((i : Int) + 1) = (gss ks' (ks'.map D.far) i limit) := (stepAt_eq (i := i + 1) L2.st (by omega)).trans p1
          have m5 : stepAt H2 a ((i : Int) + 1 + 1) = ks'.getD (i + 1) 0 := (stepAt_eq (i := i + 2) L2.st (by omega)).trans p2
          by_cases le : D.far (gss ks' (ks'.map D.far) i limit) ≤ limit
          · walk_at "go"
            refine ⟨⟨i + 1, _, _, _, rfl, L2, O2, s'.trans s2, by omega, by rw [p1]; exact le, fun _ => by rw [show i + 1 + 1 = i + 2 from rfl, p2]; exact j6, fun z => by omega⟩, ?_⟩
            show (stepAt H2 a ((i : Int) + 1 + 1) - stepAt H2 a ((i : Int) + 1)).toNat < (stepAt H' a ((i : Int) + 1) - stepAt H' a i).toNat
            rw [m1, m2, m4, m5]
            omega
          · walk_at "go"
            refine ⟨⟨i, _, _, _, rfl, L2, O2, s'.trans s2, by omega, by rw [p0]; exact j2, fun _ => by rw [p1]; omega, fun z => by omega⟩, ?_⟩
            show (stepAt H2 a ((i : Int) + 1) - stepAt H2 a (i : Int)).toNat < (stepAt H' a ((i : Int) + 1) - stepAt H' a i).toNat
            rw [m1, m2, m3, m4]
            omega
      · walk_at "go"
        rw [if_neg (by omega)]
        refine q _ ks' _ L' O' ⟨b1.1, by omega, j2, .inr ?_⟩ s'
        have e : ks'.getD i 0 + 1 = ks'.getD (i + 1) 0 := by
          have := inc_lt O'.inc (i := i) (j := i + 1) (by omega) j5
          omega
        rw [e]
        exact j6
    · walk_at "go"
      have e : (if room < ks'.getD i 0 then room else ks'.getD i 0) = room := by split <;> omega
      rw [e]
      have := G.fmono room (ks'.getD i 0) r0 (by omega)
      exact q _ ks' _ L' O' ⟨r0, by omega, by omega, .inl rfl⟩ s'
/-! making one -/
theorem lput1 (v : V) : putF ("_q" : Str) v [] = [(("_q" : Str), v)] := rfl
theorem lput2 (v : V) (a : Addr) : putF ("_steps" : Str) (.ref a) [(("_q" : Str), v)] = [(("_q" : Str), v), ("_steps", .ref a)] := by
  show (if ("_q" : Str) = "_steps" then _ else _ :: putF ("_steps" : Str) (V.ref a) []) = _
  rw [if_neg (by decide +kernel)]
  rfl
theorem lput3 (v : V) (a b : Addr) : putF ("_reaches" : Str) (.ref b) [(("_q" : Str), v), ("_steps", .ref a)] = ladF v a b := by
  show (if ("_q" : Str) = "_reaches" then _ else _ :: (if ("_steps" : Str) = "_reaches" then _ else _ :: putF ("_reaches" : Str) (V.ref b) [])) = _
  rw [if_neg (by decide +kernel), if_neg (by decide +kernel)]
  rfl
def spLadInit (K : PySem.W.Frag) (C : Addr) (n : Nat) : Sp := fun vs H Q _ => ∃ (p dx : Addr) (v : V) (D : Den), vs = [.ref p, v] ∧ H p = some (.ins C dx []) ∧ Ex K H n true v D ∧ n ≤ 20 ∧
  ∀ H' a b, Lad C H' p v a b [0] [D.far 0] → (∀ c o, c ≠ p → H c = some o → H' c = some o) → H a = none → H b = none → Q .non H'
set_option maxHeartbeats 4000000 in
theorem ok_ladInit (T : Txt K mg) {C : Addr} (C_Ladder : Cls_Ladder K mg C) {n l : Nat} (R : ∃ (f : Addr) (fd : FuncData), FnOk P w K mg base CX0 l f fd ["q", "k"] (spFar K n true) ∧ mg "reach" = some (.ref f) ∧ PySem.W.keepIn K (.ref f) = true ∧ L2.Binds K fd ["q", "k"] []) :
    ∃ (f : Addr) (fd : FuncData), Mk K C f ∧ FnOk P w K mg base CX0 (l + 1) f fd ["self", "q"] (spLadInit K C n) ∧ L2.Binds K fd ["self", "q"] [] := by
  obtain ⟨f, fd, M, F, bi⟩ := C_Ladder.m_Ladder__init
  obtain ⟨f_reach, fd_reach, G_reach, g_reach, kp_reach, b_reach⟩ := R
  have cl := C_Ladder.cl
  have n1 := C_Ladder.n_steps
  have n2 := C_Ladder.n_reaches
  have n3 := C_Ladder.n_q
  refine ⟨f, fd, M, ?_, bi⟩
  refine F.ok sc_Ladder__init (fun vs H Q E h => ?_) (fun cdv A outer s H vs Q E hr h => ?_)
  · obtain ⟨_, _, _, _, rfl, _⟩ := h; rfl
  · obtain ⟨p, dx, v, D, rfl, hp, h, hn, q⟩ := h
    refine ⟨_, (pss_cons (ps_fld (pv 0) (pv 1) rfl)
      (pss_cons (ps_fld (pv 0) (pe_lst (pa_cons pe_int pa_nil)) rfl)
      (pss_one (ps_fld (pv 0) (pe_lst (pa_cons (pe_call G_reach (hr.mono (by omega)) (by rfl) g_reach kp_reach b_reach .nil pass0 (pa_cons (pv 1) (pa_cons pe_int pa_nil))) pa_nil)) rfl)))), ?_⟩
    refine Rd.start (σ' := [some (.ref p), some v]) rfl ?_
    try dsimp only [cxOf, Cx.nox, Cx.wish]
    walk_at "go"
    refine Rd.putf ?_
    walk_at "go"
    refine Rd.putI hp cl n3 (by simp) (lput1 v) ?_
    walk_at "go"
    refine Rd.putf ?_
    walk_at "go"
    refine Rd.new (by decide) fun a na => ?_
    walk_at "go"
    have pa : p ≠ a := ne_of_none (o := .ins C dx [(("_q" : Str), v)]) upd_same na
    refine Rd.putI (keep na upd_same) cl n1 (by simp) (lput2 v a) ?_
    walk_at "go"
    refine Rd.putf ?_
    walk_at "go"
    have sub : TupK H (upd (upd (upd H p (.ins C dx [(("_q" : Str), v)])) a (.lst [.int 0])) p (.ins C dx [(("_q" : Str), v), ("_steps", .ref a)])) :=
      TupK.two hp hp (by intro u y; cases y) (by intro u y; cases y) (by intro o u y; cases y) (by intro o u y; cases y) fun c o cp _ e => keepN cp (keep na (keepN cp e))
    refine far_go (h.sub sub) hn (by decide) fun H2 s2 => ?_
    walk_at "go"
    refine Rd.new (by simp) fun b nb => ?_
    walk_at "go"
    have ha2 : H2 a = some (.lst [.int 0]) := s2 _ _ (keepN pa.symm upd_same)
    have ab : a ≠ b := ne_of_none ha2 nb
    have pb : p ≠ b := ne_of_none (s2 _ _ upd_same) nb
    refine Rd.putI (keep nb (s2 _ _ upd_same)) cl n2 (by simp) (lput3 v a b) ?_
    exact q _ a b ⟨⟨dx, upd_same⟩, keepN pa.symm (keep nb ha2), keepN pb.symm upd_same, ab⟩ (fun c o cp e => keepN cp (keep nb (s2 _ _ (keepN cp (keep na (keepN cp e)))))) (free na) (free (free (free (s2.free nb))))
theorem lad_make {C : Addr} {n : Nat} {H : Hp} {Q : VK} {E : XK} {v : V} {D : Den} (h : Ex K H n true v D) (hn : n ≤ 20) (q : ∀ H' p a b, Lad C H' p v a b [0] [D.far 0] → Same H H' → H p = none → H a = none → H b = none → Q (.ref p) H') : MAKE C (spLadInit K C n) [v] H Q E := by
  intro x dx nx ndx nex
  have s0 : Same H (upd (upd H dx (.own x)) x (.ins C dx [])) := fun b o e => by
    rw [upd_ne (ne_of_none e nx), upd_ne (ne_of_none e ndx)]
    exact e
  refine ⟨x, dx, v, D, rfl, upd_same, h.sub (TupK.same s0), hn, fun H' a b L k na nb => ⟨rfl, q H' x a b L (fun c o e => k c o (ne_of_none e nx) (s0 _ _ e)) nx (s0.free na) (s0.free nb)⟩⟩
end

end K11

set_option Elab.async false
set_option linter.all false
set_option maxRecDepth 100000
namespace K11
open PySem PySem.Spec PyProof.Rows L2
/-! the reader: steps that need no word -/
local macro_rules | `(tactic| walk_at "hp") => `(tactic| first
  | with_reducible assumption
  | exact upd_same
  | (((with_reducible apply Rd.keep); (with_reducible assumption)); walk_at "hp"))
local macro_rules | `(tactic| walk_at "slot") => `(tactic| first | with_reducible apply Rd.slot0 | with_reducible apply Rd.slot1 | with_reducible apply Rd.slot2 | with_reducible apply Rd.slot3 | with_reducible apply Rd.slot4 | with_reducible apply Rd.slot5 | with_reducible apply Rd.slot6 | with_reducible apply Rd.slot7 | with_reducible apply Rd.slot8 | with_reducible apply Rd.slot9 | with_reducible apply Rd.slot10 | with_reducible apply Rd.slot11 | with_reducible apply Rd.slot12 | with_reducible apply Rd.slot13 | with_reducible apply Rd.slot14 | with_reducible apply Rd.slot15 | with_reducible apply Rd.slot16 | with_reducible apply Rd.slot17 | with_reducible apply Rd.slot18 | with_reducible apply Rd.slot19 | with_reducible apply Rd.slot20 | with_reducible apply Rd.slot21 | with_reducible apply Rd.slot22 | with_reducible apply Rd.slot23)
local macro_rules | `(tactic| walk_at "dg") => `(tactic| first | exact g_left | exact g_at | exact g_cells | exact g_mix)
local macro_rules | `(tactic| walk_at "dp") => `(tactic| first | exact p_left | exact p_at | exact p_mix)
local macro_rules | `(tactic| walk_at "le") => `(tactic| first | decide | (simp only [List.length_map, List.length_append]; omega) | omega)
local macro_rules | `(tactic| walk_at "side") => `(tactic| first
  | with_reducible assumption
  | exact Rd.cmulL (by omega) (by omega)
  | exact Rd.cmulR (by omega) (by omega)
  | exact Rd.cpow (by decide) (by decide) (by decide)
  | exact Rd.cdiv (by omega) (by omega)
  | omega)
local macro_rules | `(tactic| walk_at "sq") => `(tactic| first
  | with_reducible assumption
  | exact SqL.of (by walk_at "hp")
  | exact SqT.of (by walk_at "hp"))
local macro_rules | `(tactic| walk_at "at") => `(tactic| first | with_reducible assumption | exact Rd.at0 | exact Rd.at1 | exact Rd.at2 | exact Rd.at3 | exact Rd.at4)
local macro_rules | `(tactic| walk_at "own") => `(tactic| fail)
local macro_rules | `(tactic| walk_at "rd") => `(tactic| repeat (first
  | ((with_reducible apply Rd.var); exact rfl)
  | with_reducible apply Rd.cst
  | with_reducible apply Rd.notn
  | with_reducible apply Rd.isn
  | with_reducible apply Rd.op
  | with_reducible apply Rd.un
  | with_reducible apply Rd.i0
  | with_reducible apply Rd.u1
  | with_reducible apply Rd.eqI
  | with_reducible apply Rd.neI
  | with_reducible apply Rd.eqB
  | with_reducible apply Rd.eqS
  | with_reducible apply Rd.neS
  | with_reducible apply Rd.tst
  | with_reducible apply Rd.tB
  | with_reducible apply Rd.blk
  | with_reducible apply iteF
  | with_reducible apply iteT
  | with_reducible apply Rd.iteNt
  | with_reducible apply Rd.iteNf
  | with_reducible apply Rd.tnot
  | with_reducible apply Rd.tand
  | with_reducible apply Rd.tor
  | with_reducible apply Rd.andV
  | with_reducible apply Rd.orV
  | with_reducible apply Rd.notV
  | with_reducible apply Rd.ifE
  | with_reducible apply Rd.chain
  | with_reducible apply Rd.anil
  | with_reducible apply Rd.acons
  | with_reducible apply Rd.cbInt
  | with_reducible apply Rd.cbAbs
  | with_reducible apply Rd.cbMin
  | with_reducible apply Rd.cbMax
  | with_reducible apply Rd.cbLen
  | ((with_reducible apply Rd.lenL); (walk_at "sq"))
  | ((with_reducible apply Rd.lenT); (walk_at "sq"))
  | with_reducible apply Rd.min2
  | with_reducible apply Rd.max2
  | with_reducible apply Rd.cbTup
  | with_reducible apply Rd.cbLst
  | with_reducible apply Rd.cb
  | ((with_reducible apply Rd.ixL); (walk_at "sq"); (walk_at "at"))
  | ((with_reducible apply Rd.ixT); (walk_at "sq"); (walk_at "at"))
  | with_reducible apply Rd.call
  | with_reducible apply Rd.int1
  | with_reducible apply Rd.abs1
  | with_reducible apply Rd.lst
  | with_reducible apply Rd.tup
  | with_reducible apply Rd.dget
  | with_reducible apply Rd.dput
  | ((with_reducible apply Rd.dgetS); (walk_at "hp"); (walk_at "dg"))
  | ((with_reducible apply Rd.dputS); (walk_at "hp"); (walk_at "le"); (walk_at "dp"))
  | ((with_reducible apply Rd.i1); (walk_at "side"))
  | with_reducible apply Rd.seq
  | with_reducible apply Rd.nxt
  | with_reducible apply Rd.asg
  | walk_at "slot"
  | with_reducible apply Rd.ret
  | with_reducible apply Rd.retN
  | with_reducible apply Rd.ifS
  | with_reducible apply Rd.drop
  | with_reducible apply Rd.brk
  | with_reducible apply Rd.cnt
  | with_reducible apply Rd.pcons
  | with_reducible apply Rd.pnil
  | with_reducible apply Rd.lcl
  | with_reducible apply Rd.lct
  | with_reducible apply Rd.gname
  | with_reducible apply Rd.yes
  | ((with_reducible apply Rd.wip); (exact rfl))
  | with_reducible apply Rd.forl
  | with_reducible apply Rd.fort
  | with_reducible apply Rd.forr
  | with_reducible apply Rd.forr2
  | with_reducible apply Rd.sl
  | with_reducible apply Rd.part
  | with_reducible apply Rd.part1
  | with_reducible apply Rd.nopart
  | with_reducible apply Rd.lcr1
  | with_reducible apply Rd.asgT
  | ((with_reducible apply Rd.gtup); (walk_at "sq"); (exact rfl))
  | with_reducible apply Rd.gcons
  | with_reducible apply Rd.gnil
  | with_reducible apply Rd.gtupV
  | with_reducible apply Rd.dnotin
  | ((with_reducible apply Rd.dnI); (walk_at "hp"))
  | ((with_reducible apply Rd.dgetI); (walk_at "hp"); (with_reducible assumption))
  | with_reducible apply Rd.asgS
  | with_reducible apply Rd.bm
  | ((with_reducible apply Rd.bmL); (walk_at "hp"))
  | with_reducible apply Rd.neB
  | with_reducible apply Rd.notnN
  | with_reducible apply Rd.notnB
  | with_reducible apply Rd.notnI
  | with_reducible apply Rd.isnN
  | with_reducible apply Rd.isnI
  | walk_at "own"))
local macro_rules | `(tactic| walk_at "dec") => `(tactic| first
  | ((with_reducible apply Rd.iteP); (first | with_reducible assumption | exact rfl | decide | omega))
  | ((with_reducible apply Rd.iteM); (first | with_reducible assumption | exact rfl | decide | omega))
  | ((with_reducible apply Rd.iteNP); (first | with_reducible assumption | exact rfl | decide | omega))
  | ((with_reducible apply Rd.iteNM); (first | with_reducible assumption | exact rfl | decide | omega)))
local macro_rules | `(tactic| walk_at "go") => `(tactic| (walk_at "rd"; (repeat (walk_at "dec"; walk_at "rd"))))
section
open Rd
variable {P : Program} {w : World} {K : PySem.W.Frag} {mg : Str → Option Value} {base : Heap}
/-! the plan: rows that only need earlier ones -/
def rowK (word : Str) (x : NestedKey) (a b c : Int) : NestedKey := .tup [.text word, x, .num a, .num b, .num c]
/-- the row with this key means the function m of the tick, where ms are the meanings of the rows before it -/
inductive RowIs (ms : List (Int → Int)) : NestedKey → (Int → Int) → Prop
  | num (n : Int) : RowIs ms (rowK "number" (.num n) 0 1 0) (fun _ => n)
  | wav {a : Nat} {f : Int → Int} (h : ms[a]? = some f) : RowIs ms (rowK "wave" (.num a) 0 1 0) (fun t => wave (f t))
  | sum {as : List Nat} {fs : List (Int → Int)} (h : as.map (fun i => ms[i]?) = fs.map some) (l : as.length ≤ 1000) : RowIs ms (rowK "sum" (.tup (as.map fun i : Nat => .num i)) 0 1 0) (fun t => (fs.map fun f => f t).sum)
  | share {a : Nat} {f : Int → Int} {b d : Int} (h : ms[a]? = some f) (lb : Lim b) (ld : Dv d) : RowIs ms (rowK "share" (.num a) b d 0) (fun t => f t * b / d)
  | prod {a b : Nat} {f g : Int → Int} {d : Int} (h : ms[a]? = some f) (h2 : ms[b]? = some g) (ld : Dv d) (s1 : ∀ t, (f t).natAbs < 2 ^ 400001) (s2 : ∀ t, (g t).natAbs < 2 ^ 400001) : RowIs ms (rowK "product" (.num a) b d 0) (fun t => f t * g t / d)
  | turn {s i d e : Int} (ls : Lim s) (li : Lim i) (ld : Dv d) : RowIs ms (rowK "turning" (.num s) i d e) (fun t => s + (i * t + e) / d)
  | minus {a b : Nat} {f g : Int → Int} (h : ms[a]? = some f) (h2 : ms[b]? = some g) : RowIs ms (rowK "minus" (.num a) b 1 0) (fun t => f t - g t)
theorem get_more {α : Type} {ms more : List α} {a : Nat} {f : α} (h : ms[a]? = some f) : (ms ++ more)[a]? = some f := by
  rw [List.getElem?_append_left (List.getElem?_eq_some_iff.mp h).1]
  exact h
theorem gets_more {α : Type} {ms more : List α} {as : List Nat} {fs : List α} (h : as.map (fun i => ms[i]?) = fs.map some) : as.map (fun i => (ms ++ more)[i]?) = fs.map some := by
  induction as generalizing fs with
  | nil => exact h
  | cons a r ih =>
    cases fs with
    | nil => simp at h
    | cons f fs =>
      rw [List.map_cons, List.map_cons] at h ⊢
      injection h with h1 h2
      rw [ih h2, get_more h1]
theorem RowIs.more {ms more : List (Int → Int)} {k : NestedKey} {m : Int → Int} (h : RowIs ms k m) : RowIs (ms ++ more) k m := by
  cases h with
  | num n => exact .num n
  | wav h => exact .wav (get_more h)
  | sum h l => exact .sum (gets_more h) l
  | share h lb ld => exact .share (get_more h) lb ld
  | prod h h2 ld s1 s2 => exact .prod (get_more h) (get_more h2) ld s1 s2
  | turn ls li ld => exact .turn ls li ld
  | minus h h2 => exact .minus (get_more h) (get_more h2)
theorem maps_inj {as bs : List Nat} (h : (as.map fun i : Nat => NestedKey.num i) = bs.map fun i : Nat => NestedKey.num i) : as = bs := by
  induction as generalizing bs with
  | nil =>
    cases bs with
    | nil => rfl
    | cons b r => simp at h
  | cons a r ih =>
    cases bs with
    | nil => simp at h
    | cons b s =>
      rw [List.map_cons, List.map_cons] at h
      injection h with h1 h2
      injection h1 with h1
      rw [ih h2, Int.ofNat.inj h1]
theorem some_inj {α : Type} {fs gs : List α} (h : fs.map some = gs.map some) : fs = gs := by
  induction fs generalizing gs with
  | nil =>
    cases gs with
    | nil => rfl
    | cons b r => simp at h
  | cons a r ih =>
    cases gs with
    | nil => simp at h
    | cons b s =>
      rw [List.map_cons, List.map_cons] at h
      injection h with h1 h2
      injection h1 with h1
      rw [ih h2, h1]
theorem rowK_inj {w1 w2 : Str} {x y : NestedKey} {a b c a' b' c' : Int} (h : rowK w1 x a b c = rowK w2 y a' b' c') : w1 = w2 ∧ x = y ∧ a = a' ∧ b = b' ∧ c = c' := by
  unfold rowK at h
  injection h with h
  injection h with h1 h
  injection h with h2 h
  injection h with h3 h
  injection h with h4 h
  injection h with h5 h
  injection h1 with h1
  injection h3 with h3
  injection h4 with h4
  injection h5 with h5
  exact ⟨h1, h2, h3, h4, h5⟩
/-- the key settles the meaning -/
theorem RowIs.same {ms : List (Int → Int)} {k k' : NestedKey} {m m' : Int → Int} (h : RowIs ms k m) (h' : RowIs ms k' m') (e : k = k') : m = m' := by
  cases h <;> cases h' <;> obtain ⟨e1, e2, e3, e4, e5⟩ := rowK_inj e <;> first
    | exact absurd e1 (by decide +kernel)
    | skip
  · injection e2 with e2
    rw [e2]
  · rename_i h1 _ _ h2
    injection e2 with e2
    have e2' := Int.ofNat.inj e2
    subst e2'
    rw [h1] at h2
    cases h2
    rfl
  · rename_i h1 _ _ _ h2 _
    injection e2 with e2
    have := maps_inj e2
    subst this
    rw [h1] at h2
    rw [some_inj h2]
  · rename_i h1 _ _ _ _ _ _ h2 _ _
    injection e2 with e2
    have e2' := Int.ofNat.inj e2
    subst e2' e3 e4
    rw [h1] at h2
    cases h2
    rfl
  · rename_i h1 h2 _ _ _ _ _ _ _ _ g1 g2 _ _ _
    injection e2 with e2
    have e2' := Int.ofNat.inj e2
    have e3' := Int.ofNat.inj e3
    subst e2' e3' e4
    rw [h1] at g1
    rw [h2] at g2
    cases g1
    cases g2
    rfl
  · injection e2 with e2
    subst e2 e3 e4 e5
    rfl
  · rename_i h1 h2 _ _ _ _ g1 g2
    injection e2 with e2
    have e2' := Int.ofNat.inj e2
    have e3' := Int.ofNat.inj e3
    subst e2' e3'
    rw [h1] at g1
    rw [h2] at g2
    cases g1
    cases g2
    rfl
theorem nums_depth : ∀ as : List Nat, NestedKey.depthAll (as.map fun i : Nat => NestedKey.num i) = 0
  | [] => rfl
  | a :: r => by
    rw [List.map_cons, NestedKey.depthAll, nums_depth r]
    rfl
theorem rowK_depth {word : Str} {x : NestedKey} {a b c : Int} (h : x.depth ≤ 1) : (rowK word x a b c).depth ≤ 8 := by
  unfold rowK
  simp only [NestedKey.depth, NestedKey.depthAll]
  omega
theorem RowIs.depth {ms : List (Int → Int)} {k : NestedKey} {m : Int → Int} (h : RowIs ms k m) : k.depth ≤ 8 := by
  cases h <;> refine rowK_depth ?_ <;> first
    | exact Nat.zero_le _
    | (rw [NestedKey.depth, nums_depth]; exact Nat.le_refl _)
/-! a plan as it stands -/
abbrev PRow := Addr × NestedKey × (Int → Int)
def ents : Nat → List PRow → List Rd.Ent
  | _, [] => []
  | i, r :: rs => (r.2.1, r.1, .int i) :: ents (i + 1) rs
theorem ents_snoc : ∀ (i : Nat) (rs : List PRow) (r : PRow), ents i (rs ++ [r]) = ents i rs ++ [(r.2.1, r.1, .int ((i + rs.length : Nat) : Int))]
  | i, [], r => rfl
  | i, x :: rs, r => by
    rw [List.cons_append, ents, ents_snoc (i + 1) rs r, ents, List.cons_append, List.length_cons, show i + 1 + rs.length = i + (rs.length + 1) by omega]
theorem ents_at {k : NestedKey} {v : V} : ∀ (i : Nat) (rs : List PRow), Rd.ndAt (ents i rs) k = some v → ∃ j r, rs[j]? = some r ∧ r.2.1 = k ∧ v = .int ((i + j : Nat) : Int)
  | i, [], h => by cases h
  | i, x :: rs, h => by
    by_cases e : x.2.1 = k
    · refine ⟨0, x, rfl, e, ?_⟩
      have : Rd.ndAt (ents i (x :: rs)) k = some (.int (i : Int)) := by simp [Rd.ndAt, ents, List.find?_cons, e]
      rw [this] at h
      exact (Option.some.inj h).symm
    · have : Rd.ndAt (ents i (x :: rs)) k = Rd.ndAt (ents (i + 1) rs) k := by simp [Rd.ndAt, ents, List.find?_cons, e]
      rw [this] at h
      obtain ⟨j, r, h1, h2, h3⟩ := ents_at (i + 1) rs h
      exact ⟨j + 1, r, h1, h2, by rw [h3, show i + 1 + j = i + (j + 1) by omega]⟩
theorem ents_len : ∀ (i : Nat) (rs : List PRow), (ents i rs).length = rs.length
  | _, [] => rfl
  | i, r :: rs => by rw [ents, List.length_cons, List.length_cons, ents_len (i + 1) rs]
theorem ents_mem : ∀ (i : Nat) (rs : List PRow) (x : Rd.Ent), x ∈ ents i rs → ∃ r ∈ rs, x.1 = r.2.1 ∧ x.2.1 = r.1
  | _, [], x, h => by cases h
  | i, r :: rs, x, h => by
    rcases List.mem_cons.mp h with e | h
    · exact ⟨r, List.mem_cons_self .., by rw [e], by rw [e]⟩
    · obtain ⟨r', h1, h2⟩ := ents_mem (i + 1) rs x h
      exact ⟨r', List.mem_cons_of_mem _ h1, h2⟩
def planF (a d : Addr) (o : Option V) : List (Str × V) := ("_rows", .ref a) :: ("_indexes", .ref d) :: (match o with
  | none => []
  | some v => [("_last", v)])
theorem pl_rows (a d : Addr) (o : Option V) : (planF a d o).lookup ("_rows" : Str) = some (V.ref a) := by unfold planF; exact List.lookup_cons_self
theorem pl_ind (a d : Addr) (o : Option V) : (planF a d o).lookup ("_indexes" : Str) = some (V.ref d) := by
  unfold planF
  rw [List.lookup_cons, show (("_indexes" : Str) == "_rows") = false by decide +kernel]
  exact List.lookup_cons_self
theorem pl_last (a d : Addr) (v : V) : (planF a d (some v)).lookup ("_last" : Str) = some v := by
  unfold planF
  rw [List.lookup_cons, show (("_last" : Str) == "_rows") = false by decide +kernel]
  show List.lookup _ (_ :: _) = _
  rw [List.lookup_cons, show (("_last" : Str) == "_indexes") = false by decide +kernel]
  exact List.lookup_cons_self
theorem pl_no (a d : Addr) (o : Option V) {m : Str} (h1 : (m == ("_rows" : Str)) = false) (h2 : (m == ("_indexes" : Str)) = false) (h3 : (m == ("_last" : Str)) = false) : (planF a d o).lookup m = none := by
  unfold planF
  rw [List.lookup_cons, h1]
  show List.lookup _ (_ :: _) = _
  rw [List.lookup_cons, h2]
  cases o with
  | none => rfl
  | some v =>
    show List.lookup _ (_ :: _) = _
    rw [List.lookup_cons, h3]
    rfl
local macro_rules | `(tactic| walk_at "lk") => `(tactic| first | exact pl_rows _ _ _ | exact pl_ind _ _ _ | exact pl_last _ _ _ | exact pl_no _ _ _ (by decide +kernel) (by decide +kernel) (by decide +kernel))
structure PlanAt (P : Program) (w : World) (C : Addr) (H : Hp) (p a d : Addr) (o : Option V) (rs : List PRow) : Prop where
  at_ : ∃ dx, H p = some (.ins C dx (planF a d o))
  rows : H a = some (.lst (rs.map fun r => .ref r.1))
  dict : H d = some (Rd.ndO P w d (ents 0 rs))
  keys : ∀ (i : Nat) r, rs[i]? = some r → Rd.NK H r.2.1 (.ref r.1) ∧ RowIs ((rs.take i).map (·.2.2)) r.2.1 r.2.2
theorem PlanAt.nd {P : Program} {w : World} {C : Addr} {H : Hp} {p a d : Addr} {o : Option V} {rs : List PRow} (A : PlanAt P w C H p a d o rs) : Rd.ND P w H d (ents 0 rs) := by
  refine ⟨A.dict, fun x hx => ?_⟩
  obtain ⟨r, hr, e1, e2⟩ := ents_mem 0 rs x hx
  obtain ⟨i, hi, rfl⟩ := List.getElem_of_mem hr
  obtain ⟨g1, g2⟩ := A.keys i _ (List.getElem?_eq_getElem hi)
  rw [e1, e2]
  exact ⟨g1, g2.depth⟩
local macro_rules | `(tactic| walk_at "own") => `(tactic| first
  | with_reducible apply Rd.fld
  | ((with_reducible apply Rd.fldI); (walk_at "hp"); (with_reducible assumption); (with_reducible assumption); (walk_at "lk"))
  | with_reducible apply Rd.meth
  | ((with_reducible apply Rd.methI); (walk_at "hp"); (walk_at "lk"))
  | with_reducible apply Rd.nnot
  | with_reducible apply Rd.nget
  | with_reducible apply Rd.nput)
theorem means_take (rs : List PRow) (i : Nat) : rs.map (·.2.2) = (rs.take i).map (·.2.2) ++ (rs.drop i).map (·.2.2) := by
  rw [← List.map_append, List.take_append_drop]
def spIndex (P : Program) (w : World) (C : Addr) : Sp := fun vs H Q _ => ∃ (p b a d : Addr) (rs : List PRow) (k : NestedKey) (m : Int → Int), vs = [.ref p, .ref b] ∧ PlanAt P w C H p a d none rs ∧ Rd.NK H k (.ref b) ∧ RowIs (rs.map (·.2.2)) k m ∧ rs.length ≤ 1000 ∧
  ∀ H' rs' (i : Nat), PlanAt P w C H' p a d none rs' → rs <+: rs' → rs'.length ≤ rs.length + 1 → (rs'.map (·.2.2))[i]? = some m → But2 a d H H' → Q (.int i) H'
theorem index_go {C : Addr} {H : Hp} {Q : VK} {E : XK} {p b a d : Addr} {rs : List PRow} {k : NestedKey} {m : Int → Int} (A : PlanAt P w C H p a d none rs) (hk : Rd.NK H k (.ref b)) (hm : RowIs (rs.map (·.2.2)) k m) (hl : rs.length ≤ 1000)
    (q : ∀ H' rs' (i : Nat), PlanAt P w C H' p a d none rs' → rs <+: rs' → rs'.length ≤ rs.length + 1 → (rs'.map (·.2.2))[i]? = some m → But2 a d H H' → Q (.int i) H') : CALL (spIndex P w C) [.ref p, .ref b] H Q E := ⟨p, b, a, d, rs, k, m, rfl, A, hk, hm, hl, q⟩
set_option maxHeartbeats 4000000 in
theorem ok_index (T : Txt K mg) {C : Addr} (c : Cls_Plan K mg C) : ∃ (f : Addr) (fd : FuncData), Meth K C "_index_of" f ∧ FnOk P w K mg base CX0 1 f fd ["self", "row"] (spIndex P w C) ∧ L2.Binds K fd ["self", "row"] [] := by
  obtain ⟨f, fd, M, F, bi⟩ := c.m_Plan___index_of
  have cl := c.cl
  have n1 := c.n_rows
  have n2 := c.n_indexes
  refine ⟨f, fd, M, ?_, bi⟩
  refine F.ok sc_Plan___index_of (fun vs H Q E h => ?_) (fun cdv A outer s H vs Q E hr h => ?_)
  · obtain ⟨_, _, _, _, _, _, _, rfl, _⟩ := h; rfl
  · obtain ⟨p, b, a, d, rs, k, m, rfl, A, hk, hm, hl, q⟩ := h
    have D := A.nd
    obtain ⟨⟨dx, hp⟩, ha, hd, keys⟩ := id A
    refine ⟨_, (pss_cons (ps_if (pt_cmp (Rd.pc_nnot hr.units (pv 1) (pe_fld (pv 0) rfl))) (pss_cons (Rd.ps_nput hr.units (pe_fld (pv 0) rfl) (pv 1) (pe_callB call_len_seq (by rfl) T.m_len (by decide +kernel) (pa_cons (pe_fld (pv 0) rfl) pa_nil)) rfl)
      (pss_one (ps_expr (pe_bm PySem.F.plainAttrs_list PySem.F.slot_list_append PySem.F.type_list_append mt_append (pe_fld (pv 0) rfl) (pa_cons (pv 1) pa_nil))))) pss_nil)
      (pss_one (ps_ret (Rd.pe_nget hr.units (pe_fld (pv 0) rfl) (pv 1) (fun _ _ => rfl))))), ?_⟩
    refine Rd.start (σ' := [some (.ref p), some (.ref b)]) rfl ?_
    try dsimp only [cxOf, Cx.nox, Cx.wish]
    walk_at "go"
    refine Rd.nnI D hk hm.depth ?_
    cases e : Rd.ndAt (ents 0 rs) k with
    | some v =>
      obtain ⟨j, r, h1, h2, h3⟩ := ents_at 0 rs e
      rw [Nat.zero_add] at h3
      subst h3
      refine Rd.blk ?_
      rw [if_neg (by simp)]
      walk_at "go"
      refine Rd.ngI D hk hm.depth e ?_
      refine q H rs j A (List.prefix_refl rs) (by omega) ?_ .refl
      rw [List.getElem?_map, h1]
      have g := (keys j r h1).2
      have g' : RowIs (rs.map (·.2.2)) r.2.1 r.2.2 := by rw [means_take rs j]; exact g.more
      exact congrArg some (g'.same hm h2)
    | none =>
      refine Rd.blk ?_
      rw [if_pos (by simp)]
      walk_at "go"
      refine Rd.npI D hk hm.depth e (by rw [ents_len]; exact hl) ?_
      have ad : a ≠ d := ne_of ha hd (by intro z; cases z)
      have pa : p ≠ a := ne_of hp ha (by intro z; cases z)
      have pd : p ≠ d := ne_of hp hd (by intro z; cases z)
      rw [List.length_map, show ents 0 rs ++ [(k, b, V.int (rs.length : Int))] = ents 0 (rs ++ [(b, k, m)]) by rw [ents_snoc, Nat.zero_add]]
      have hp1 := keepN (o := Rd.ndO P w d (ents 0 (rs ++ [(b, k, m)]))) pd hp
      have ha1 := keepN (o := Rd.ndO P w d (ents 0 (rs ++ [(b, k, m)]))) ad ha
      walk_at "go"
      refine Rd.app ha1 (by rw [List.length_map]; exact hl) ?_
      have hp2 := keepN (o := .lst (rs.map (fun r => V.ref r.1) ++ [.ref b])) pa hp1
      have s2 : But2 a d H (upd (upd H d (Rd.ndO P w d (ents 0 (rs ++ [(b, k, m)])))) a (.lst (rs.map (fun r => V.ref r.1) ++ [.ref b]))) := fun c o h1 h2 z => keepN h1 (keepN h2 z)
      have sub : TupSub H (upd (upd H d (Rd.ndO P w d (ents 0 (rs ++ [(b, k, m)])))) a (.lst (rs.map (fun r => V.ref r.1) ++ [.ref b]))) := fun c zs z => s2 c _ (ne_of z ha (by intro y; cases y)) (ne_of z hd (by intro y; cases y)) z
      have A2 : PlanAt P w C (upd (upd H d (Rd.ndO P w d (ents 0 (rs ++ [(b, k, m)])))) a (.lst (rs.map (fun r => V.ref r.1) ++ [.ref b]))) p a d none (rs ++ [(b, k, m)]) := by
        refine ⟨⟨dx, hp2⟩, ?_, keepN ad.symm upd_same, fun i r hi => ?_⟩
        · rw [List.map_append]
          exact upd_same
        · by_cases z : i < rs.length
          · rw [List.getElem?_append_left z] at hi
            rw [List.take_append_of_le_length (by omega)]
            exact ⟨Rd.NK.sub sub _ _ (keys i r hi).1, (keys i r hi).2⟩
          · rw [List.getElem?_append_right (by omega)] at hi
            have e0 : i - rs.length = 0 := by
              rcases Nat.eq_zero_or_pos (i - rs.length) with h | h
              · exact h
              · rw [List.getElem?_eq_none (by simp; omega)] at hi
                cases hi
            rw [e0] at hi
            cases hi
            rw [show i = rs.length by omega, List.take_left]
            exact ⟨Rd.NK.sub sub _ _ hk, hm⟩
      walk_at "go"
      refine Rd.ngI A2.nd (Rd.NK.sub sub _ _ hk) hm.depth (v := .int (rs.length : Int)) (by rw [ents_snoc, Nat.zero_add]; exact Rd.ndAt_new e) ?_
      refine q _ _ rs.length A2 (List.prefix_append rs _) (by rw [List.length_append, List.length_singleton]; omega) ?_ s2
      rw [List.map_append, List.getElem?_append_right (by rw [List.length_map]; omega), List.length_map, Nat.sub_self]
      rfl
theorem PlanAt.same {P : Program} {w : World} {C : Addr} {H H' : Hp} {p a d : Addr} {o : Option V} {rs : List PRow} (A : PlanAt P w C H p a d o rs) (s : Same H H') : PlanAt P w C H' p a d o rs := by
  obtain ⟨⟨dx, hp⟩, ha, hd, keys⟩ := A
  exact ⟨⟨dx, s _ _ hp⟩, s _ _ ha, s _ _ hd, fun i r h => ⟨Rd.NK.sub (TupSub.same s) _ _ (keys i r h).1, (keys i r h).2⟩⟩
theorem PlanAt.tups {P : Program} {w : World} {C : Addr} {H H' : Hp} {p a d : Addr} {o : Option V} {rs : List PRow} (A : PlanAt P w C H p a d o rs) (s : But2 a d H H') : TupSub H H' := fun c zs z =>
  s c _ (ne_of z A.rows (by intro y; cases y)) (ne_of z A.dict (by intro y; cases y)) z
theorem PlanAt.tupsK {P : Program} {w : World} {C : Addr} {H H' : Hp} {p a d : Addr} {o : Option V} {rs : List PRow} (A : PlanAt P w C H p a d o rs) (s : But2 a d H H') : TupK H H' :=
  TupK.two A.rows A.dict (by intro u y; cases y) (by intro u y; cases y) (by intro o u y; cases y) (by intro o u y; cases y) s
theorem pre_get {rs rs' : List PRow} {i : Nat} {m : Int → Int} (h : rs <+: rs') (g : (rs.map (·.2.2))[i]? = some m) : (rs'.map (·.2.2))[i]? = some m := by
  obtain ⟨more, rfl⟩ := h
  rw [List.map_append]
  exact get_more g
theorem nk_row {H : Hp} {b : Addr} {word : Str} {x : NestedKey} {v : V} {i j k : Int} (h : H b = some (.tup [.str word, v, .int i, .int j, .int k])) (hx : Rd.NK H x v) : Rd.NK H (rowK word x i j k) (.ref b) :=
  .t h (.c (.s _) (.c hx (.c (.i _) (.c (.i _) (.c (.i _) .z)))))
theorem same_but2 {a d : Addr} {H H' : Hp} (s : Same H H') : But2 a d H H' := fun c o _ _ e => s c o e
def spPut (K : PySem.W.Frag) (P : Program) (w : World) (C : Addr) (n : Nat) (b : Bool) : Sp := fun vs H Q _ => ∃ (p a d : Addr) (rs : List PRow) (v : V) (D : Den) (later : Int), vs = [.ref p, v, .int later] ∧ PlanAt P w C H p a d none rs ∧ Ex K H n b v D ∧ n ≤ 20 ∧ rs.length + D.size ≤ 1000 ∧
  ∀ H' rs' (i : Nat), PlanAt P w C H' p a d none rs' → rs <+: rs' → rs'.length ≤ rs.length + D.size → (rs'.map (·.2.2))[i]? = some (fun t => D.val (t + later)) → But2 a d H H' → Q (.int i) H'
theorem put_go {C : Addr} {n : Nat} {b : Bool} {H : Hp} {Q : VK} {E : XK} {p a d : Addr} {rs : List PRow} {v : V} {D : Den} {later : Int} (A : PlanAt P w C H p a d none rs) (h : Ex K H n b v D) (hn : n ≤ 20) (hl : rs.length + D.size ≤ 1000)
    (q : ∀ H' rs' (i : Nat), PlanAt P w C H' p a d none rs' → rs <+: rs' → rs'.length ≤ rs.length + D.size → (rs'.map (·.2.2))[i]? = some (fun t => D.val (t + later)) → But2 a d H H' → Q (.int i) H') : CALL (spPut K P w C n b) [.ref p, v, .int later] H Q E := ⟨p, a, d, rs, v, D, later, rfl, A, h, hn, hl, q⟩
theorem size_pos {H : Hp} {n : Nat} {b : Bool} {v : V} {D : Den} (h : Ex K H n b v D) : 1 ≤ D.size := by
  induction h with
  | qlater _ _ _ ih => exact ih
  | _ => exact Nat.le_add_left _ _
set_option maxHeartbeats 8000000 in
theorem ok_putA (T : Txt K mg) {C : Addr} (C_Plan : Cls_Plan K mg C) {n l : Nat}
    (Qn : ∃ (f : Addr) (fd : FuncData), Meth K C "_add_quantity" f ∧ FnOk P w K mg base CX0 (l + 1) f fd ["self", "q", "later"] (spPut K P w C n true) ∧ L2.Binds K fd ["self", "q", "later"] [])
    (An : ∃ (f : Addr) (fd : FuncData), Meth K C "_add_angle" f ∧ FnOk P w K mg base CX0 (l + 1) f fd ["self", "a", "later"] (spPut K P w C n false) ∧ L2.Binds K fd ["self", "a", "later"] []) :
    ∃ (f : Addr) (fd : FuncData), Meth K C "_add_angle" f ∧ FnOk P w K mg base CX0 (l + 2) f fd ["self", "a", "later"] (spPut K P w C (n + 1) false) ∧ L2.Binds K fd ["self", "a", "later"] [] := by
  obtain ⟨f, fd, M, F, bi⟩ := C_Plan.m_Plan___add_angle
  obtain ⟨f_q, fd_q, M_Plan___add_quantity, G_Plan___add_quantity, b_Plan___add_quantity⟩ := Qn
  obtain ⟨f_a, fd_a, M_Plan___add_angle, G_Plan___add_angle, b_Plan___add_angle⟩ := An
  obtain ⟨f_i, fd_i, M_Plan___index_of, G_Plan___index_of, b_Plan___index_of⟩ := ok_index (P := P) (w := w) (base := base) T C_Plan
  refine ⟨f, fd, M, ?_, bi⟩
  refine F.ok sc_Plan___add_angle (fun vs H Q E h => ?_) (fun cdv A outer s H vs Q E hr h => ?_)
  · obtain ⟨_, _, _, _, _, _, _, rfl, _⟩ := h; rfl
  · obtain ⟨p, a, d, rs, v, D, later, rfl, A, h, hn, hl, q⟩ := h
    obtain ⟨dx, hp⟩ := A.at_
    have cl := C_Plan.cl
    have n1 := C_Plan.n_rows
    have n2 := C_Plan.n_indexes
    refine ⟨_, (pss_cons (ps_set (i := 3) sc_Plan___add_angle.nd rfl (by first | exact Or.inl rfl | exact Or.inr rfl) (pe_ix ix_tup (pv 1) pe_int (fun _ _ => rfl)))
      (pss_cons (ps_if (pt_cmpR op_eq (pv 3) pe_str (nomark _)) (pss_one (ps_ret (pe_meth (pv 0) C_Plan.cl M_Plan___index_of G_Plan___index_of (hr.mono (by omega)) b_Plan___index_of .nil pass0 (pa_cons (pe_tup (pa_cons (pv 3) (pa_cons (pe_ix ix_tup (pv 1) pe_int (fun _ _ => rfl)) (pa_cons (pe_ix ix_tup (pv 1) pe_int (fun _ _ => rfl)) (pa_cons (pe_ix ix_tup (pv 1) pe_int (fun _ _ => rfl)) (pa_cons (pe_op op_mul (pe_ix ix_tup (pv 1) pe_int (fun _ _ => rfl)) (pv 2)) pa_nil)))))) pa_nil)))) pss_nil)
      (pss_cons (ps_set (i := 4) sc_Plan___add_angle.nd rfl (by first | exact Or.inl rfl | exact Or.inr rfl) (pe_meth (pv 0) C_Plan.cl M_Plan___add_angle G_Plan___add_angle (hr.mono (by omega)) b_Plan___add_angle .nil pass0 (pa_cons (pe_ix ix_tup (pv 1) pe_int (fun _ _ => rfl)) (pa_cons (pv 2) pa_nil))))
      (pss_cons (ps_if (pt_cmpR op_eq (pv 3) pe_str (nomark _)) (pss_one (ps_ret (pe_meth (pv 0) C_Plan.cl M_Plan___index_of G_Plan___index_of (hr.mono (by omega)) b_Plan___index_of .nil pass0 (pa_cons (pe_tup (pa_cons pe_str (pa_cons (pe_tup (pa_cons (pv 4) (pa_cons (pe_meth (pv 0) C_Plan.cl M_Plan___add_quantity G_Plan___add_quantity (hr.mono (by omega)) b_Plan___add_quantity .nil pass0 (pa_cons (pe_ix ix_tup (pv 1) pe_int (fun _ _ => rfl)) (pa_cons (pv 2) pa_nil))) pa_nil))) (pa_cons pe_int (pa_cons pe_int (pa_cons pe_int pa_nil)))))) pa_nil)))) pss_nil)
      (pss_one (ps_ret (pe_meth (pv 0) C_Plan.cl M_Plan___index_of G_Plan___index_of (hr.mono (by omega)) b_Plan___index_of .nil pass0 (pa_cons (pe_tup (pa_cons (pv 3) (pa_cons (pv 4) (pa_cons (pe_meth (pv 0) C_Plan.cl M_Plan___add_angle G_Plan___add_angle (hr.mono (by omega)) b_Plan___add_angle .nil pass0 (pa_cons (pe_ix ix_tup (pv 1) pe_int (fun _ _ => rfl)) (pa_cons (pv 2) pa_nil))) (pa_cons pe_int (pa_cons pe_int pa_nil)))))) pa_nil)))))))), ?_⟩
    refine Rd.start (σ' := [some (.ref p), some v, some (.int later), none, none]) rfl ?_
    try dsimp only [cxOf, Cx.nox, Cx.wish]
    cases h with
    | @aturn _ x s i dd h ls li ld =>
      obtain ⟨li1, li2⟩ := id li
      walk_at "go"
      refine Rd.new (by simp) fun b nb => ?_
      walk_at "go"
      have s1 : Same H (upd H b (.tup [.str "turning", .int s, .int i, .int dd, .int (i * later)])) := Same.put nb
      refine index_go (A.same s1) (nk_row upd_same (.i _)) (.turn ls li ld) (by omega) fun H2 rs2 j A2 pre2 len2 m2 s2 => ?_
      walk_at "go"
      refine q H2 rs2 j A2 pre2 len2 ?_ ((same_but2 s1).trans s2)
      rw [m2]
      refine congrArg some (funext fun t => ?_)
      show s + (i * t + i * later) / dd = s + i * (t + later) / dd
      rw [Int.mul_add]
    | @amoved _ x b c g f h l l2 =>
      have sz : (dMoved g f).size = g.size + f.size + 1 := rfl
      rw [sz] at hl q
      walk_at "go"
      refine put_go A l (by omega) (by omega) fun H1 rs1 i1 A1 pre1 len1 m1 s1 => ?_
      obtain ⟨dx1, hp1⟩ := A1.at_
      have h1 := SqT.up (A.tupsK s1) h
      walk_at "go"
      refine put_go A1 (l2.sub (A.tupsK s1)) (by omega) (by omega) fun H2 rs2 i2 A2 pre2 len2 m2 s2 => ?_
      walk_at "go"
      refine Rd.new (by simp) fun b3 nb3 => ?_
      walk_at "go"
      refine Rd.new (by simp) fun b4 nb4 => ?_
      walk_at "go"
      have s3 : Same H2 (upd H2 b3 (.tup [.int i1, .int i2])) := Same.put nb3
      have s4 : Same (upd H2 b3 (.tup [.int i1, .int i2])) (upd (upd H2 b3 (.tup [.int i1, .int i2])) b4 (.tup [.str "sum", .ref b3, .int 0, .int 1, .int 0])) := Same.put nb4
      refine index_go (A2.same (s3.trans s4)) (nk_row upd_same (.t (s4 _ _ upd_same) (.c (.i _) (.c (.i _) .z)))) (.sum (as := [i1, i2]) (fs := [fun t => g.val (t + later), fun t => f.val (t + later)]) (by
        show [(rs2.map (·.2.2))[i1]?, (rs2.map (·.2.2))[i2]?] = [some _, some _]
        rw [pre_get pre2 m1, m2]) (by simp)) (by omega) fun H5 rs5 j A5 pre5 len5 m5 s5 => ?_
      walk_at "go"
      refine q H5 rs5 j A5 (pre1.trans (pre2.trans pre5)) (by omega) ?_ (s1.trans (s2.trans ((same_but2 (s3.trans s4)).trans s5)))
      rw [m5]
      refine congrArg some (funext fun t => ?_)
      show g.val (t + later) + (f.val (t + later) + 0) = g.val (t + later) + f.val (t + later)
      rw [Int.add_zero]
    | @aminus _ x b c g f h l l2 =>
      have sz : (dMinus g f).size = g.size + f.size + 1 := rfl
      rw [sz] at hl q
      walk_at "go"
      refine put_go A l (by omega) (by omega) fun H1 rs1 i1 A1 pre1 len1 m1 s1 => ?_
      obtain ⟨dx1, hp1⟩ := A1.at_
      have h1 := SqT.up (A.tupsK s1) h
      walk_at "go"
      refine put_go A1 (l2.sub (A.tupsK s1)) (by omega) (by omega) fun H2 rs2 i2 A2 pre2 len2 m2 s2 => ?_
      walk_at "go"
      refine Rd.new (by simp) fun b4 nb4 => ?_
      walk_at "go"
      have s4 : Same H2 (upd H2 b4 (.tup [.str "minus", .int i1, .int i2, .int 1, .int 0])) := Same.put nb4
      refine index_go (A2.same s4) (nk_row upd_same (.i _)) (.minus (pre_get pre2 m1) m2) (by omega) fun H5 rs5 j A5 pre5 len5 m5 s5 => ?_
      walk_at "go"
      exact q H5 rs5 j A5 (pre1.trans (pre2.trans pre5)) (by omega) m5 (s1.trans (s2.trans ((same_but2 s4).trans s5)))
theorem PlanAt.lay {P : Program} {w : World} {C : Addr} {H : Hp} {p a d D : Addr} {o : Option V} {rs : List PRow} {xs ys : List V} (A : PlanAt P w C H p a d o rs) (hD : H D = some (.lst xs)) (n : a ≠ D) : PlanAt P w C (upd H D (.lst ys)) p a d o rs := by
  obtain ⟨⟨dx, hp⟩, ha, hd, keys⟩ := A
  have sub : TupSub H (upd H D (.lst ys)) := fun c zs z => keepN (ne_of z hD (by intro y; cases y)) z
  exact ⟨⟨dx, keepN (ne_of hp hD (by intro y; cases y)) hp⟩, keepN n ha, keepN (ne_of hd hD (by intro y; cases y)) hd, fun i r h => ⟨Rd.NK.sub sub _ _ (keys i r h).1, (keys i r h).2⟩⟩
theorem pre_gets {rs rs' : List PRow} {is : List Nat} {fs : List (Int → Int)} (h : rs <+: rs') (g : is.map (fun i => (rs.map (·.2.2))[i]?) = fs.map some) : is.map (fun i => (rs'.map (·.2.2))[i]?) = fs.map some := by
  obtain ⟨more, rfl⟩ := h
  rw [List.map_append]
  exact gets_more g
theorem nk_nums {H : Hp} : ∀ is : List Nat, Rd.NKs H (is.map fun i : Nat => NestedKey.num i) (is.map fun i : Nat => V.int i)
  | [] => .z
  | i :: r => .c (.i _) (nk_nums r)
/-- the numbers of the parts, as they are laid one after another -/
structure Parts (P : Program) (w : World) (C : Addr) (H : Hp) (p a d : Addr) (rs : List PRow) (gs : List Den) (later : Int) (D : Addr) (i : Nat) (H' : Hp) (rs' : List PRow) (is : List Nat) : Prop where
  pl : PlanAt P w C H' p a d none rs'
  pre : rs <+: rs'
  len : rs'.length ≤ rs.length + ((gs.take i).map fun g => g.size).sum
  at_ : is.map (fun j => (rs'.map (·.2.2))[j]?) = ((gs.take i).map fun g => fun t => g.val (t + later)).map some
  acc : H' D = some (.lst (is.map fun j : Nat => V.int j))
  n : is.length = i
  kept : But2 a d H H'
theorem sum_take_le (f : Den → Nat) : ∀ (gs : List Den) (i : Nat), ((gs.take i).map f).sum ≤ (gs.map f).sum
  | [], i => by simp
  | g :: r, 0 => by simp
  | g :: r, i + 1 => by
    have := sum_take_le f r i
    rw [List.take_succ_cons, List.map_cons, List.map_cons, List.sum_cons, List.sum_cons]
    omega
theorem take_snoc {α : Type} {gs : List α} {i : Nat} {g : α} (h : gs[i]? = some g) : gs.take (i + 1) = gs.take i ++ [g] := by
  rw [List.take_add_one, h]
  rfl
theorem val_bits {n : Nat} {D : Den} (G : Good true n D) (hb : D.most ≤ BM) (t : Int) : (D.val t).natAbs < 2 ^ 400001 := by
  have a1 := G.vle rfl t
  exact BM_nat (by omega) (by omega)
set_option maxHeartbeats 16000000 in
theorem ok_putQ (T : Txt K mg) {C : Addr} (C_Plan : Cls_Plan K mg C) {n l : Nat}
    (Qn : ∃ (f : Addr) (fd : FuncData), Meth K C "_add_quantity" f ∧ FnOk P w K mg base CX0 (l + 1) f fd ["self", "q", "later"] (spPut K P w C n true) ∧ L2.Binds K fd ["self", "q", "later"] [])
    (An : ∃ (f : Addr) (fd : FuncData), Meth K C "_add_angle" f ∧ FnOk P w K mg base CX0 (l + 1) f fd ["self", "a", "later"] (spPut K P w C n false) ∧ L2.Binds K fd ["self", "a", "later"] []) :
    ∃ (f : Addr) (fd : FuncData), Meth K C "_add_quantity" f ∧ FnOk P w K mg base CX0 (l + 2) f fd ["self", "q", "later"] (spPut K P w C (n + 1) true) ∧ L2.Binds K fd ["self", "q", "later"] [] := by
  obtain ⟨f, fd, M, F, bi⟩ := C_Plan.m_Plan___add_quantity
  obtain ⟨f_q, fd_q, M_Plan___add_quantity, G_Plan___add_quantity, b_Plan___add_quantity⟩ := Qn
  obtain ⟨f_a, fd_a, M_Plan___add_angle, G_Plan___add_angle, b_Plan___add_angle⟩ := An
  obtain ⟨f_i, fd_i, M_Plan___index_of, G_Plan___index_of, b_Plan___index_of⟩ := ok_index (P := P) (w := w) (base := base) T C_Plan
  refine ⟨f, fd, M, ?_, bi⟩
  refine F.ok sc_Plan___add_quantity (fun vs H Q E h => ?_) (fun cdv A outer s H vs Q E hr h => ?_)
  · obtain ⟨_, _, _, _, _, _, _, rfl, _⟩ := h; rfl
  · obtain ⟨p, a, d, rs, v, D, later, rfl, A, h, hn, hl, q⟩ := h
    obtain ⟨dx, hp⟩ := A.at_
    have cl := C_Plan.cl
    have n1 := C_Plan.n_rows
    have n2 := C_Plan.n_indexes
    refine ⟨_, (pss_cons (ps_set (i := 3) sc_Plan___add_quantity.nd rfl (by first | exact Or.inl rfl | exact Or.inr rfl) (pe_ix ix_tup (pv 1) pe_int (fun _ _ => rfl)))
      (pss_cons (ps_if (pt_cmpR op_eq (pv 3) pe_str (nomark _)) (pss_one (ps_ret (pe_meth (pv 0) C_Plan.cl M_Plan___add_quantity G_Plan___add_quantity (hr.mono (by omega)) b_Plan___add_quantity .nil pass0 (pa_cons (pe_ix ix_tup (pv 1) pe_int (fun _ _ => rfl)) (pa_cons (pe_op op_add (pv 2) (pe_ix ix_tup (pv 1) pe_int (fun _ _ => rfl))) pa_nil))))) pss_nil)
      (pss_cons (ps_if (pt_cmpR op_eq (pv 3) pe_str (nomark _)) (pss_one (ps_ret (pe_meth (pv 0) C_Plan.cl M_Plan___index_of G_Plan___index_of (hr.mono (by omega)) b_Plan___index_of .nil pass0 (pa_cons (pe_tup (pa_cons (pv 3) (pa_cons (pe_ix ix_tup (pv 1) pe_int (fun _ _ => rfl)) (pa_cons pe_int (pa_cons pe_int (pa_cons pe_int pa_nil)))))) pa_nil)))) pss_nil)
      (pss_cons (ps_if (pt_cmpR op_eq (pv 3) pe_str (nomark _)) (pss_one (ps_ret (pe_meth (pv 0) C_Plan.cl M_Plan___index_of G_Plan___index_of (hr.mono (by omega)) b_Plan___index_of .nil pass0 (pa_cons (pe_tup (pa_cons (pv 3) (pa_cons (pe_meth (pv 0) C_Plan.cl M_Plan___add_angle G_Plan___add_angle (hr.mono (by omega)) b_Plan___add_angle .nil pass0 (pa_cons (pe_ix ix_tup (pv 1) pe_int (fun _ _ => rfl)) (pa_cons (pv 2) pa_nil))) (pa_cons pe_int (pa_cons pe_int (pa_cons pe_int pa_nil)))))) pa_nil)))) pss_nil)
      (pss_cons (ps_if (pt_cmpR op_eq (pv 3) pe_str (nomark _)) (pss_one (ps_ret (pe_meth (pv 0) C_Plan.cl M_Plan___index_of G_Plan___index_of (hr.mono (by omega)) b_Plan___index_of .nil pass0 (pa_cons (pe_tup (pa_cons (pv 3) (pa_cons (pe_callTy call_tuple_of (by rfl) T.m_tuple (by decide +kernel) (pa_cons (pe_lc (own := [("v", 5)]) (g := gName 5) (tt := tYes) (by rfl) sc_Plan___add_quantity.nd (pi_tup (pe_slice sl_tup (pv 1) (po_some pe_int) po_none)) (blkOk_by (own := [("v", 5)]) (N := ["self", "q", "later", "word", "first", "v"]) (sc := defScope s_Plan___add_quantity) (by decide +kernel)) (fun _ _ _ _ _ => (pg_name (i := 5) sc_Plan___add_quantity.nd rfl (by first | exact Or.inl rfl | exact Or.inr rfl))) (fun _ _ _ _ _ => pts_nil) (fun _ _ _ _ _ => (pe_meth (pv 0) C_Plan.cl M_Plan___add_quantity G_Plan___add_quantity (hr.mono (by omega)) b_Plan___add_quantity .nil pass0 (pa_cons (pv 5) (pa_cons (pv 2) pa_nil))))) pa_nil)) (pa_cons pe_int (pa_cons pe_int (pa_cons pe_int pa_nil)))))) pa_nil)))) pss_nil)
      (pss_cons (ps_set (i := 4) sc_Plan___add_quantity.nd rfl (by first | exact Or.inl rfl | exact Or.inr rfl) (pe_meth (pv 0) C_Plan.cl M_Plan___add_quantity G_Plan___add_quantity (hr.mono (by omega)) b_Plan___add_quantity .nil pass0 (pa_cons (pe_ix ix_tup (pv 1) pe_int (fun _ _ => rfl)) (pa_cons (pv 2) pa_nil))))
      (pss_cons (ps_if (pt_cmpR op_eq (pv 3) pe_str (nomark _)) (pss_one (ps_ret (pe_meth (pv 0) C_Plan.cl M_Plan___index_of G_Plan___index_of (hr.mono (by omega)) b_Plan___index_of .nil pass0 (pa_cons (pe_tup (pa_cons (pv 3) (pa_cons (pv 4) (pa_cons (pe_ix ix_tup (pv 1) pe_int (fun _ _ => rfl)) (pa_cons (pe_ix ix_tup (pv 1) pe_int (fun _ _ => rfl)) (pa_cons pe_int pa_nil)))))) pa_nil)))) pss_nil)
      (pss_one (ps_ret (pe_meth (pv 0) C_Plan.cl M_Plan___index_of G_Plan___index_of (hr.mono (by omega)) b_Plan___index_of .nil pass0 (pa_cons (pe_tup (pa_cons (pv 3) (pa_cons (pv 4) (pa_cons (pe_meth (pv 0) C_Plan.cl M_Plan___add_quantity G_Plan___add_quantity (hr.mono (by omega)) b_Plan___add_quantity .nil pass0 (pa_cons (pe_ix ix_tup (pv 1) pe_int (fun _ _ => rfl)) (pa_cons (pv 2) pa_nil))) (pa_cons (pe_ix ix_tup (pv 1) pe_int (fun _ _ => rfl)) (pa_cons pe_int pa_nil)))))) pa_nil))))))))))), ?_⟩
    refine Rd.start (σ' := [some (.ref p), some v, some (.int later), none, none, none]) rfl ?_
    try dsimp only [cxOf, Cx.nox, Cx.wish]
    cases h with
    | @qnum _ x i h li =>
      walk_at "go"
      refine Rd.new (by simp) fun b nb => ?_
      walk_at "go"
      have s1 : Same H (upd H b (.tup [.str "number", .int i, .int 0, .int 1, .int 0])) := Same.put nb
      refine index_go (A.same s1) (nk_row upd_same (.i _)) (.num i) (by have := hl; change rs.length + 1 ≤ 1000 at this; omega) fun H2 rs2 j A2 pre2 len2 m2 s2 => ?_
      walk_at "go"
      exact q H2 rs2 j A2 pre2 len2 m2 ((same_but2 s1).trans s2)
    | @qlater _ x b g i h l li =>
      walk_at "go"
      refine put_go A l (by omega) hl fun H1 rs1 i1 A1 pre1 len1 m1 s1 => ?_
      walk_at "go"
      refine q H1 rs1 i1 A1 pre1 len1 ?_ s1
      rw [m1]
      refine congrArg some (funext fun t => ?_)
      show g.val (t + (later + i)) = g.val (t + later + i)
      rw [Int.add_assoc]
    | @qwave _ x b g h l =>
      have sz : (dWave g).size = g.size + 1 := rfl
      rw [sz] at hl q
      walk_at "go"
      refine put_go A l (by omega) (by omega) fun H1 rs1 i1 A1 pre1 len1 m1 s1 => ?_
      walk_at "go"
      refine Rd.new (by simp) fun b4 nb4 => ?_
      walk_at "go"
      have s4 : Same H1 (upd H1 b4 (.tup [.str "wave", .int i1, .int 0, .int 1, .int 0])) := Same.put nb4
      refine index_go (A1.same s4) (nk_row upd_same (.i _)) (.wav m1) (by omega) fun H5 rs5 j A5 pre5 len5 m5 s5 => ?_
      walk_at "go"
      exact q H5 rs5 j A5 (pre1.trans pre5) (by omega) m5 (s1.trans ((same_but2 s4).trans s5))
    | @qshare _ x b g i dd h l li ld =>
      have sz : (dShare g i dd).size = g.size + 1 := rfl
      rw [sz] at hl q
      walk_at "go"
      refine put_go A l (by omega) (by omega) fun H1 rs1 i1 A1 pre1 len1 m1 s1 => ?_
      obtain ⟨dx1, hp1⟩ := A1.at_
      have h1 := SqT.up (A.tupsK s1) h
      walk_at "go"
      refine Rd.new (by simp) fun b4 nb4 => ?_
      walk_at "go"
      have s4 : Same H1 (upd H1 b4 (.tup [.str "share", .int i1, .int i, .int dd, .int 0])) := Same.put nb4
      refine index_go (A1.same s4) (nk_row upd_same (.i _)) (.share m1 li ld) (by omega) fun H5 rs5 j A5 pre5 len5 m5 s5 => ?_
      walk_at "go"
      exact q H5 rs5 j A5 (pre1.trans pre5) (by omega) m5 (s1.trans ((same_but2 s4).trans s5))
    | @qprod _ x b c g f dd h l l2 ld hb =>
      have sz : (dProd g f dd).size = g.size + f.size + 1 := rfl
      rw [sz] at hl q
      have G1 := l.good
      have G2 := l2.good
      walk_at "go"
      refine put_go A l (by omega) (by omega) fun H1 rs1 i1 A1 pre1 len1 m1 s1 => ?_
      obtain ⟨dx1, hp1⟩ := A1.at_
      have h1 := SqT.up (A.tupsK s1) h
      walk_at "go"
      refine put_go A1 (l2.sub (A.tupsK s1)) (by omega) (by omega) fun H2 rs2 i2 A2 pre2 len2 m2 s2 => ?_
      have h2 := SqT.up (A1.tupsK s2) h1
      walk_at "go"
      refine Rd.new (by simp) fun b4 nb4 => ?_
      walk_at "go"
      have s4 : Same H2 (upd H2 b4 (.tup [.str "product", .int i1, .int i2, .int dd, .int 0])) := Same.put nb4
      refine index_go (A2.same s4) (nk_row upd_same (.i _)) (.prod (pre_get pre2 m1) m2 ld (fun t => val_bits G1 hb.1 _) (fun t => val_bits G2 hb.2 _)) (by omega) fun H5 rs5 j A5 pre5 len5 m5 s5 => ?_
      walk_at "go"
      exact q H5 rs5 j A5 (pre1.trans (pre2.trans pre5)) (by omega) m5 (s1.trans (s2.trans ((same_but2 s4).trans s5)))
    | @qsum _ x xs gs h e l0 l1 l =>
      have sz : (dSum gs).size = (gs.map fun g => g.size).sum + 1 := rfl
      rw [sz] at hl q
      walk_at "go"
      refine Rd.slT1 h fun p2 n2 => ?_
      walk_at "go"
      have s2 : Same H (upd H p2 (.tup xs)) := Same.put n2
      have A2 := A.same s2
      have e2 : (upd H p2 (.tup xs)) p2 = some (.tup xs) := upd_same
      generalize upd H p2 (.tup xs) = H2 at *
      refine Rd.lctGo (σ0 := [some (.ref p), some (.ref x), some (.int later), some (.str "sum"), none, none]) rfl (SqT.of e2) (fun D i H' => H2 D = none ∧ ∃ rs' is, Parts P w C H2 p a d rs gs later D i H' rs' is)
        (fun D nD => ⟨nD, rs, [], A2.same (Same.put nD), List.prefix_refl _, by simp, by simp, upd_same, rfl, same_but2 (Same.put nD)⟩)
        (fun D i H' _ ⟨_, rs', is, B⟩ => SqT.of (A2.tups B.kept _ _ e2)) (fun D i y H' hx ⟨nD, rs', is, B⟩ => ?_) (fun D H' nD ⟨_, rs', is, B⟩ => ?_)
      · have hi : i < gs.length := by rw [← e]; exact (List.getElem?_eq_some_iff.mp hx).1
        have hg : gs[i]? = some gs[i] := List.getElem?_eq_getElem hi
        have st := sum_take_le (fun g => g.size) gs (i + 1)
        rw [take_snoc hg, List.map_append, List.sum_append] at st
        change _ + (gs[i].size + 0) ≤ _ at st
        obtain ⟨dx', hp'⟩ := B.pl.at_
        have len := B.len
        walk_at "go"
        refine put_go B.pl ((l i y _ hx hg).sub ((TupK.same s2).trans (A2.tupsK B.kept))) (by omega) (by omega) fun H4 rs4 j A4 pre4 len4 m4 s4 => ?_
        have aD : a ≠ D := ne_of_none A2.rows nD
        have dD : d ≠ D := ne_of_none A2.dict nD
        have hD4 := s4 _ _ aD.symm dD.symm B.acc
        refine Rd.lcn hD4 (by rw [List.length_map, B.n]; omega) ⟨nD, rs4, is ++ [j], A4.lay hD4 aD, B.pre.trans pre4, ?_, ?_, ?_, ?_, ?_⟩
        · rw [take_snoc hg, List.map_append, List.sum_append]
          change _ ≤ _ + (_ + (gs[i].size + 0))
          omega
        · rw [take_snoc hg, List.map_append, List.map_append, List.map_append, pre_gets pre4 B.at_]
          exact congrArg (fun z => _ ++ [z]) m4
        · rw [List.map_append]
          exact upd_same
        · rw [List.length_append, B.n]
          rfl
        · exact fun c o h1 h2 z => keepN (ne_of_none z nD) (s4 _ _ h1 h2 (B.kept _ _ h1 h2 z))
      · have n9 := B.n
        rw [e] at n9
        have at9 := B.at_
        have len9 := B.len
        rw [e, List.take_length] at at9 len9
        obtain ⟨dx', hp'⟩ := B.pl.at_
        walk_at "go"
        refine Rd.tupL (SqL.of B.acc) fun p5 n5 => ?_
        walk_at "go"
        refine Rd.new (by simp) fun p6 n6 => ?_
        walk_at "go"
        have s5 : Same H' (upd H' p5 (.tup (is.map fun j : Nat => V.int j))) := Same.put n5
        have s6 : Same (upd H' p5 (.tup (is.map fun j : Nat => V.int j))) (upd (upd H' p5 (.tup (is.map fun j : Nat => V.int j))) p6 (.tup [.str "sum", .ref p5, .int 0, .int 1, .int 0])) := Same.put n6
        refine index_go (B.pl.same (s5.trans s6)) (nk_row upd_same (.t (s6 _ _ upd_same) (nk_nums is))) (.sum at9 (by omega)) (by omega) fun H7 rs7 j A7 pre7 len7 m7 s7 => ?_
        walk_at "go"
        refine q H7 rs7 j A7 (B.pre.trans pre7) (by omega) ?_ ((same_but2 s2).trans (B.kept.trans ((same_but2 (s5.trans s6)).trans s7)))
        rw [m7]
        refine congrArg some (funext fun t => ?_)
        show ((gs.map fun g => fun t => g.val (t + later)).map fun f => f t).sum = (gs.map fun v => v.val (t + later)).sum
        rw [List.map_map]
        rfl
theorem ok_puts (T : Txt K mg) {C : Addr} (C_Plan : Cls_Plan K mg C) : ∀ n : Nat,
    (∃ (f : Addr) (fd : FuncData), Meth K C "_add_quantity" f ∧ FnOk P w K mg base CX0 (n + 1) f fd ["self", "q", "later"] (spPut K P w C n true) ∧ L2.Binds K fd ["self", "q", "later"] []) ∧
    (∃ (f : Addr) (fd : FuncData), Meth K C "_add_angle" f ∧ FnOk P w K mg base CX0 (n + 1) f fd ["self", "a", "later"] (spPut K P w C n false) ∧ L2.Binds K fd ["self", "a", "later"] [])
  | 0 => by
    obtain ⟨fq, fdq, Mq, Fq, bq⟩ := C_Plan.m_Plan___add_quantity
    obtain ⟨fa, fda, Ma, Fa, ba⟩ := C_Plan.m_Plan___add_angle
    exact ⟨⟨fq, fdq, Mq, never.imp (fun vs H Q E h => by obtain ⟨_, _, _, _, v, D, _, _, _, h, _⟩ := h; cases h), bq⟩, ⟨fa, fda, Ma, never.imp (fun vs H Q E h => by obtain ⟨_, _, _, _, v, D, _, _, _, h, _⟩ := h; cases h), ba⟩⟩
  | n + 1 => by
    obtain ⟨Q1, A1⟩ := ok_puts T C_Plan n
    exact ⟨ok_putQ T C_Plan Q1 A1, ok_putA T C_Plan Q1 A1⟩
/-! a plan made -/
theorem plput1 (a : Addr) : putF ("_rows" : Str) (.ref a) [] = [(("_rows" : Str), V.ref a)] := rfl
theorem plput2 (a d : Addr) : putF ("_indexes" : Str) (.ref d) [(("_rows" : Str), V.ref a)] = planF a d none := by
  show (if ("_rows" : Str) = "_indexes" then _ else _ :: putF ("_indexes" : Str) (V.ref d) []) = _
  rw [if_neg (by decide +kernel)]
  rfl
theorem plput3 (a d : Addr) (v : V) : putF ("_last" : Str) v (planF a d none) = planF a d (some v) := by
  show (if ("_rows" : Str) = "_last" then _ else _ :: (if ("_indexes" : Str) = "_last" then _ else _ :: putF ("_last" : Str) v [])) = _
  rw [if_neg (by decide +kernel), if_neg (by decide +kernel)]
  rfl
def spPlanInit (K : PySem.W.Frag) (P : Program) (w : World) (C : Addr) (n : Nat) : Sp := fun vs H Q _ => ∃ (p dx : Addr) (v : V) (D : Den), vs = [.ref p, v] ∧ H p = some (.ins C dx []) ∧ Ex K H n true v D ∧ n ≤ 20 ∧ D.size ≤ 1000 ∧
  ∀ H' a d rs (i : Nat), PlanAt P w C H' p a d (some (.int i)) rs → (rs.map (·.2.2))[i]? = some D.val → rs.length ≤ 1000 → (∀ c o, c ≠ p → H c = some o → H' c = some o) → H a = none → H d = none → Q .non H'
set_option maxHeartbeats 4000000 in
theorem ok_planInit (T : Txt K mg) {C : Addr} (C_Plan : Cls_Plan K mg C) (n : Nat) : ∃ (f : Addr) (fd : FuncData), Mk K C f ∧ FnOk P w K mg base CX0 (n + 2) f fd ["self", "q"] (spPlanInit K P w C n) ∧ L2.Binds K fd ["self", "q"] [] := by
  obtain ⟨f, fd, M, F, bi⟩ := C_Plan.m_Plan__init
  obtain ⟨⟨f_q, fd_q, M_Plan___add_quantity, G_Plan___add_quantity, b_Plan___add_quantity⟩, _⟩ := ok_puts (P := P) (w := w) (base := base) T C_Plan n
  have cl := C_Plan.cl
  have n1 := C_Plan.n_rows
  have n2 := C_Plan.n_indexes
  have n3 := C_Plan.n_last
  refine ⟨f, fd, M, ?_, bi⟩
  refine F.ok sc_Plan__init (fun vs H Q E h => ?_) (fun cdv A outer s H vs Q E hr h => ?_)
  · obtain ⟨_, _, _, _, rfl, _⟩ := h; rfl
  · obtain ⟨p, dx, v, D, rfl, hp, h, hn, hz, q⟩ := h
    refine ⟨_, (pss_cons (ps_fld (pv 0) (pe_lst pa_nil) rfl)
      (pss_cons (ps_fld (pv 0) Rd.pe_nnew rfl)
      (pss_one (ps_fld (pv 0) (pe_meth (pv 0) C_Plan.cl M_Plan___add_quantity G_Plan___add_quantity (hr.mono (by omega)) b_Plan___add_quantity .nil pass0 (pa_cons (pv 1) (pa_cons pe_int pa_nil))) rfl)))), ?_⟩
    refine Rd.start (σ' := [some (.ref p), some v]) rfl ?_
    try dsimp only [cxOf, Cx.nox, Cx.wish]
    walk_at "go"
    refine Rd.putf ?_
    walk_at "go"
    refine Rd.new (by simp) fun a na => ?_
    walk_at "go"
    have pa : p ≠ a := ne_of_none hp na
    refine Rd.putI (keep na hp) cl n1 (by simp) (plput1 a) ?_
    walk_at "go"
    refine Rd.putf ?_
    walk_at "go"
    refine Rd.nnew fun d nd => ?_
    walk_at "go"
    have pd : p ≠ d := ne_of_none (o := .ins C dx [(("_rows" : Str), V.ref a)]) upd_same nd
    have ad : a ≠ d := ne_of_none (o := .lst []) (keepN pa.symm upd_same) nd
    refine Rd.putI (keep nd upd_same) cl n2 (by simp) (plput2 a d) ?_
    walk_at "go"
    refine Rd.putf ?_
    have h1 : (upd (upd (upd (upd H a (HO.lst [])) p (.ins C dx [(("_rows" : Str), V.ref a)])) d (Rd.ndO P w d [])) p (.ins C dx (planF a d none))) p = some (.ins C dx (planF a d none)) := upd_same
    have A1 : PlanAt P w C (upd (upd (upd (upd H a (HO.lst [])) p (.ins C dx [(("_rows" : Str), V.ref a)])) d (Rd.ndO P w d [])) p (.ins C dx (planF a d none))) p a d none [] :=
      ⟨⟨dx, upd_same⟩, keepN pa.symm (keepN ad (keepN pa.symm upd_same)), keepN pd.symm upd_same, fun i r z => by cases z⟩
    have k1 : ∀ c o, c ≠ p → H c = some o → (upd (upd (upd (upd H a (HO.lst [])) p (.ins C dx [(("_rows" : Str), V.ref a)])) d (Rd.ndO P w d [])) p (.ins C dx (planF a d none))) c = some o := fun c o cp z => keepN cp (keep nd (keepN cp (keep na z)))
    have nd0 : H d = none := free (free nd)
    generalize (upd (upd (upd (upd H a (HO.lst [])) p (.ins C dx [(("_rows" : Str), V.ref a)])) d (Rd.ndO P w d [])) p (.ins C dx (planF a d none))) = H1 at *
    walk_at "go"
    refine put_go A1 (h.sub (TupK.two hp hp (by intro u y; cases y) (by intro u y; cases y) (by intro o u y; cases y) (by intro o u y; cases y) fun c o cp _ e => k1 c o cp e)) hn (by show 0 + D.size ≤ 1000; omega) fun H2 rs2 i A2 pre2 len2 m2 s2 => ?_
    obtain ⟨⟨dx2, hp2⟩, ha2, hd2, keys2⟩ := A2
    walk_at "go"
    refine Rd.putI hp2 cl n3 (by simp [planF]) (plput3 a d _) ?_
    refine q _ a d rs2 i ⟨⟨dx2, upd_same⟩, keepN pa.symm ha2, keepN pd.symm hd2, fun j r z => ⟨Rd.NK.sub (fun c zs y => keepN (ne_of y hp2 (by intro u; cases u)) y) _ _ (keys2 j r z).1, (keys2 j r z).2⟩⟩ ?_ (by simp at len2; omega) (fun c o cp z => keepN cp (s2 _ _ ?_ ?_ (k1 _ _ cp z))) na nd0
    · rw [m2]
      refine congrArg some (funext fun t => ?_)
      rw [Int.add_zero]
    · exact ne_of_none z na
    · exact ne_of_none z nd0
theorem plan_make {C : Addr} {n : Nat} {H : Hp} {Q : VK} {E : XK} {v : V} {D : Den} (h : Ex K H n true v D) (hn : n ≤ 20) (hz : D.size ≤ 1000)
    (q : ∀ H' p a d rs (i : Nat), PlanAt P w C H' p a d (some (.int i)) rs → (rs.map (·.2.2))[i]? = some D.val → rs.length ≤ 1000 → Same H H' → H p = none → H a = none → H d = none → Q (.ref p) H') : MAKE C (spPlanInit K P w C n) [v] H Q E := by
  intro x dx nx ndx nex
  have s0 : Same H (upd (upd H dx (.own x)) x (.ins C dx [])) := fun b o e => by
    rw [upd_ne (ne_of_none e nx), upd_ne (ne_of_none e ndx)]
    exact e
  exact ⟨x, dx, v, D, rfl, upd_same, h.sub (TupK.same s0), hn, hz, fun H' a d rs i A m l k na nd => ⟨rfl, q H' x a d rs i A m l (fun c o e => k c o (ne_of_none e nx) (s0 _ _ e)) nx (s0.free na) (s0.free nd)⟩⟩
/-! its value at a tick -/
theorem nk_row_inv {H : Hp} {word : Str} {x : NestedKey} {i j k : Int} {b : Addr} (h : Rd.NK H (rowK word x i j k) (.ref b)) : ∃ v, H b = some (.tup [.str word, v, .int i, .int j, .int k]) ∧ Rd.NK H x v := by
  unfold rowK at h
  cases h with
  | t e r =>
    cases r with
    | c a1 r =>
      cases r with
      | c a2 r =>
        cases r with
        | c a3 r =>
          cases r with
          | c a4 r =>
            cases r with
            | c a5 r =>
              cases r
              cases a1
              cases a3
              cases a4
              cases a5
              exact ⟨_, e, a2⟩
theorem nk_nums_inv {H : Hp} : ∀ (is : List Nat) (vs : List V), Rd.NKs H (is.map fun i : Nat => NestedKey.num i) vs → vs = is.map fun i : Nat => V.int i
  | [], _, h => by cases h; rfl
  | i :: r, _, h => by
    cases h with
    | c a q =>
      cases a
      rw [nk_nums_inv r _ q]
      rfl
def outs (t : Int) (rs : List PRow) : List V := rs.map fun r => V.int (r.2.2 t)
theorem out_at {t : Int} {rs : List PRow} {a : Nat} {f : Int → Int} (h : (rs.map (·.2.2))[a]? = some f) : atI (outs t rs) (a : Int) = some (.int (f t)) := by
  refine atI_nat (j := a) ?_
  unfold outs
  rw [List.getElem?_map] at h ⊢
  cases z : rs[a]? with
  | none => rw [z] at h; cases h
  | some r =>
    rw [z] at h
    have h' : r.2.2 = f := Option.some.inj h
    show some (V.int (r.2.2 t)) = _
    rw [h']
def spPlanVal (P : Program) (w : World) (C : Addr) : Sp := fun vs H Q _ => ∃ (p a d : Addr) (rs : List PRow) (i : Nat) (f : Int → Int) (t : Int), vs = [.ref p, .int t] ∧ PlanAt P w C H p a d (some (.int i)) rs ∧ (rs.map (·.2.2))[i]? = some f ∧ rs.length ≤ 1000 ∧ ∀ H', Same H H' → Q (.int (f t)) H'
theorem planVal_go {C : Addr} {H : Hp} {Q : VK} {E : XK} {p a d : Addr} {rs : List PRow} {i : Nat} {f : Int → Int} {t : Int} (A : PlanAt P w C H p a d (some (.int i)) rs) (hf : (rs.map (·.2.2))[i]? = some f) (hl : rs.length ≤ 1000) (q : ∀ H', Same H H' → Q (.int (f t)) H') :
    CALL (spPlanVal P w C) [.ref p, .int t] H Q E := ⟨p, a, d, rs, i, f, t, rfl, A, hf, hl, q⟩
set_option maxHeartbeats 16000000 in
theorem ok_planVal (T : Txt K mg) {C : Addr} (C_Plan : Cls_Plan K mg C) : ∃ (f : Addr) (fd : FuncData), Meth K C "value" f ∧ FnOk P w K mg base CX0 4 f fd ["self", "t"] (spPlanVal P w C) ∧ L2.Binds K fd ["self", "t"] [] := by
  obtain ⟨f, fd, M, F, bi⟩ := C_Plan.m_Plan__value
  obtain ⟨f_wave, fd_wave, G_wave, g_wave, kp_wave, b_wave⟩ := ok_wave (P := P) (w := w) (base := base) T
  have cl := C_Plan.cl
  have n1 := C_Plan.n_rows
  have n2 := C_Plan.n_indexes
  have n3 := C_Plan.n_last
  refine ⟨f, fd, M, ?_, bi⟩
  refine F.ok sc_Plan__value (fun vs H Q E h => ?_) (fun cdv A outer s H vs Q E hr h => ?_)
  · obtain ⟨_, _, _, _, _, _, _, rfl, _⟩ := h; rfl
  · obtain ⟨p, a, d, rs, i, f, t, rfl, A, hf, hl, q⟩ := h
    obtain ⟨⟨dx, hp⟩, ha, hd, keys⟩ := id A
    refine ⟨_, (pss_cons (ps_set (i := 2) sc_Plan__value.nd rfl (by first | exact Or.inl rfl | exact Or.inr rfl) (pe_lst pa_nil))
      (pss_cons (ps_for PassesOwn.never rfl (pi_list (pe_fld (pv 0) rfl)) (pg_tup (by rfl) (pgs_cons (pg_name (i := 3) sc_Plan__value.nd rfl (by first | exact Or.inl rfl | exact Or.inr rfl)) (pgs_cons (pg_name (i := 4) sc_Plan__value.nd rfl (by first | exact Or.inl rfl | exact Or.inr rfl)) (pgs_cons (pg_name (i := 5) sc_Plan__value.nd rfl (by first | exact Or.inl rfl | exact Or.inr rfl)) (pgs_cons (pg_name (i := 6) sc_Plan__value.nd rfl (by first | exact Or.inl rfl | exact Or.inr rfl)) (pgs_cons (pg_name (i := 7) sc_Plan__value.nd rfl (by first | exact Or.inl rfl | exact Or.inr rfl)) pgs_nil)))))) (pss_one (ps_if (pt_cmpR op_eq (pv 3) pe_str (nomark _)) (pss_one (ps_expr (pe_bm PySem.F.plainAttrs_list PySem.F.slot_list_append PySem.F.type_list_append mt_append (pv 2) (pa_cons (pe_call G_wave (hr.mono (by omega)) (by rfl) g_wave kp_wave b_wave .nil pass0 (pa_cons (pe_ix ix_list (pv 2) (pv 4) (fun _ _ => rfl)) pa_nil)) pa_nil)))) (pss_one (ps_if (pt_cmpR op_eq (pv 3) pe_str (nomark _)) (pss_one (ps_expr (pe_bm PySem.F.plainAttrs_list PySem.F.slot_list_append PySem.F.type_list_append mt_append (pv 2) (pa_cons (pe_op op_add (pv 4) (pe_op op_fdivW (pe_op op_add (pe_op op_mul (pv 5) (pv 1)) (pv 7)) (pv 6))) pa_nil)))) (pss_one (ps_if (pt_cmpR op_eq (pv 3) pe_str (nomark _)) (pss_one (ps_expr (pe_bm PySem.F.plainAttrs_list PySem.F.slot_list_append PySem.F.type_list_append mt_append (pv 2) (pa_cons (pe_op op_fdivW (pe_op op_mul (pe_ix ix_list (pv 2) (pv 4) (fun _ _ => rfl)) (pv 5)) (pv 6)) pa_nil)))) (pss_one (ps_if (pt_cmpR op_eq (pv 3) pe_str (nomark _)) (pss_one (ps_expr (pe_bm PySem.F.plainAttrs_list PySem.F.slot_list_append PySem.F.type_list_append mt_append (pv 2) (pa_cons (pe_callB (cr_sum rfl) (by rfl) T.m_sum (by decide +kernel) (pa_cons (pe_lc (own := [("at", 8)]) (g := gName 8) (tt := tYes) (by rfl) sc_Plan__value.nd (pi_tup (pv 4)) (blkOk_by (own := [("at", 8)]) (N := ["self", "t", "out", "word", "a", "b", "d", "e", "at"]) (sc := defScope s_Plan__value) (by decide +kernel)) (fun _ _ _ _ _ => (pg_name (i := 8) sc_Plan__value.nd rfl (by first | exact Or.inl rfl | exact Or.inr rfl))) (fun _ _ _ _ _ => pts_nil) (fun _ _ _ _ _ => (pe_ix (r := rIxL K) ix_list (pv 2) (pv 8) (fun _ _ => rfl)))) pa_nil)) pa_nil)))) (pss_one (ps_if (pt_cmpR op_eq (pv 3) pe_str (nomark _)) (pss_one (ps_expr (pe_bm PySem.F.plainAttrs_list PySem.F.slot_list_append PySem.F.type_list_append mt_append (pv 2) (pa_cons (pe_op op_fdivW (pe_op op_mulW (pe_ix ix_list (pv 2) (pv 4) (fun _ _ => rfl)) (pe_ix ix_list (pv 2) (pv 5) (fun _ _ => rfl))) (pv 6)) pa_nil)))) (pss_one (ps_if (pt_cmpR op_eq (pv 3) pe_str (nomark _)) (pss_one (ps_expr (pe_bm PySem.F.plainAttrs_list PySem.F.slot_list_append PySem.F.type_list_append mt_append (pv 2) (pa_cons (pe_op op_sub (pe_ix ix_list (pv 2) (pv 4) (fun _ _ => rfl)) (pe_ix ix_list (pv 2) (pv 5) (fun _ _ => rfl))) pa_nil)))) (pss_one (ps_expr (pe_bm PySem.F.plainAttrs_list PySem.F.slot_list_append PySem.F.type_list_append mt_append (pv 2) (pa_cons (pv 4) pa_nil)))))))))))))))))
      (pss_one (ps_ret (pe_ix ix_list (pv 2) (pe_fld (pv 0) rfl) (fun _ _ => rfl)))))), ?_⟩
    refine Rd.start (σ' := [some (.ref p), some (.int t), none, none, none, none, none, none, none]) rfl ?_
    try dsimp only [cxOf, Cx.nox, Cx.wish]
    walk_at "go"
    refine Rd.new (by simp) fun o no => ?_
    walk_at "go"
    have s1 : Same H (upd H o (.lst [])) := Same.put no
    have ao : a ≠ o := ne_of_none ha no
    refine Rd.forlGo (SqL.of (s1 _ _ ha)) (fun j σ H' => ∃ x1 x2 x3 x4 x5 x6, σ = [some (.ref p), some (.int t), some (.ref o), x1, x2, x3, x4, x5, x6] ∧ H' o = some (.lst (outs t (rs.take j))) ∧ Same H H')
      ⟨none, none, none, none, none, none, rfl, upd_same, s1⟩ (fun j σ H' _ h => by obtain ⟨_, _, _, _, _, _, _, _, sm⟩ := h; exact SqL.of (sm _ _ ha)) (fun j x σ H' hx h => ?_) (fun σ H' h => ?_)
    · obtain ⟨x1, x2, x3, x4, x5, x6, rfl, ho, sm⟩ := h
      rw [List.getElem?_map] at hx
      cases z : rs[j]? with
      | none => rw [z] at hx; cases hx
      | some r =>
        rw [z] at hx
        cases hx
        have hj : j < rs.length := (List.getElem?_eq_some_iff.mp z).1
        obtain ⟨b, k, m⟩ := r
        obtain ⟨hk, hm⟩ := keys j _ z
        have step : ∀ n, outs t (rs.take j) ++ [V.int (m t)] = n → outs t (rs.take (j + 1)) = n := fun n e => by
          rw [← e, take_snoc z]
          unfold outs
          rw [List.map_append]
          rfl
        have hlen : (outs t (rs.take j)).length ≤ 1000 := by unfold outs; rw [List.length_map, List.length_take]; omega
        change Rd.NK H k (.ref b) at hk
        change RowIs ((rs.take j).map (·.2.2)) k m at hm
        cases hm with
        | num n =>
          obtain ⟨v, hb, hv⟩ := nk_row_inv hk
          cases hv
          have hb' := sm _ _ hb
          walk_at "go"
          exact Rd.app ho hlen ⟨_, _, _, _, _, _, rfl, by rw [step _ rfl]; exact upd_same, Same.mut sm no⟩
        | wav h1 =>
          obtain ⟨v, hb, hv⟩ := nk_row_inv hk
          cases hv
          have hb' := sm _ _ hb
          have e1 := out_at (t := t) h1
          walk_at "go"
          refine wave_go ?_
          walk_at "go"
          exact Rd.app ho hlen ⟨_, _, _, _, _, _, rfl, by rw [step _ rfl]; exact upd_same, Same.mut sm no⟩
        | @sum as fs h1 l1 =>
          obtain ⟨v, hb, hv⟩ := nk_row_inv hk
          cases hv with
          | @t p7 vs7 _ hb7 hn7 =>
            have e7 := nk_nums_inv _ _ hn7
            subst e7
            have hb' := sm _ _ hb
            have hb7' := sm _ _ hb7
            have ll : as.length = fs.length := by have := congrArg List.length h1; simpa using this
            walk_at "go"
            refine Rd.lctMap (ys := (fs.map fun f => f t).map V.int) (σ0 := [some (.ref p), some (.int t), some (.ref o), some (.str "sum"), some (.ref p7), some (.int 0), some (.int 1), some (.int 0), none]) rfl (SqT.of hb7') (by simp [ll]) (by simp; omega) (fun i8 x8 y8 H8 N8 hx8 hy8 sm8 hN8 => ?_) (fun D8 H8 nD8 hD8 sm8 => ?_)
            · rw [List.getElem?_map] at hx8
              rw [List.map_map, List.getElem?_map] at hy8
              cases z1 : as[i8]? with
              | none => rw [z1] at hx8; cases hx8
              | some a8 =>
                rw [z1] at hx8
                cases hx8
                cases z2 : fs[i8]? with
                | none => rw [z2] at hy8; cases hy8
                | some f8 =>
                  rw [z2] at hy8
                  cases hy8
                  have g8 : ((rs.take j).map (·.2.2))[a8]? = some f8 := by
                    have := congrArg (fun l => l[i8]?) h1
                    simp only [List.getElem?_map, z1, z2] at this
                    have := Option.some.inj this
                    rw [List.getElem?_map]
                    exact this
                  have e8 := out_at (t := t) g8
                  have ho8 := sm8 _ _ ho
                  walk_at "go"
                  exact hN8 _ (Same.refl _)
            · have ho8 := sm8 _ _ ho
              walk_at "go"
              refine Rd.sum1 (SqL.of hD8) ?_
              walk_at "go"
              exact Rd.app ho8 hlen ⟨_, _, _, _, _, _, rfl, by rw [step _ rfl]; exact upd_same, Same.mut (sm.trans sm8) no⟩
        | share h1 lb ld =>
          obtain ⟨v, hb, hv⟩ := nk_row_inv hk
          cases hv
          have hb' := sm _ _ hb
          have e1 := out_at (t := t) h1
          obtain ⟨lb1, lb2⟩ := lb
          obtain ⟨ld1, ld2⟩ := ld
          walk_at "go"
          exact Rd.app ho hlen ⟨_, _, _, _, _, _, rfl, by rw [step _ rfl]; exact upd_same, Same.mut sm no⟩
        | prod h1 h2 ld b1 b2 =>
          obtain ⟨v, hb, hv⟩ := nk_row_inv hk
          cases hv
          have hb' := sm _ _ hb
          have e1 := out_at (t := t) h1
          have e2 := out_at (t := t) h2
          obtain ⟨ld1, ld2⟩ := ld
          have w1 := PySem.Flt.log2_lt_of (by decide) (b1 t)
          have w2 := PySem.Flt.log2_lt_of (by decide) (b2 t)
          walk_at "go"
          refine Rd.i1 (show CMulW _ _ by unfold CMulW; omega) ?_
          walk_at "go"
          exact Rd.app ho hlen ⟨_, _, _, _, _, _, rfl, by rw [step _ rfl]; exact upd_same, Same.mut sm no⟩
        | turn ls li ld =>
          obtain ⟨v, hb, hv⟩ := nk_row_inv hk
          cases hv
          have hb' := sm _ _ hb
          obtain ⟨li1, li2⟩ := li
          obtain ⟨ld1, ld2⟩ := ld
          walk_at "go"
          exact Rd.app ho hlen ⟨_, _, _, _, _, _, rfl, by rw [step _ rfl]; exact upd_same, Same.mut sm no⟩
        | minus h1 h2 =>
          obtain ⟨v, hb, hv⟩ := nk_row_inv hk
          cases hv
          have hb' := sm _ _ hb
          have e1 := out_at (t := t) h1
          have e2 := out_at (t := t) h2
          walk_at "go"
          exact Rd.app ho hlen ⟨_, _, _, _, _, _, rfl, by rw [step _ rfl]; exact upd_same, Same.mut sm no⟩
    · obtain ⟨x1, x2, x3, x4, x5, x6, rfl, ho, sm⟩ := h
      rw [List.length_map, List.take_length] at ho
      have hp' := sm _ _ hp
      have e := out_at (t := t) hf
      walk_at "go"
      exact q _ sm
end

end K11

set_option Elab.async false
set_option linter.all false
set_option maxRecDepth 100000
namespace K11
open PySem PySem.Spec PyProof.Rows L2
/-! the reader: steps that need no word -/
local macro_rules | `(tactic| walk_at "hp") => `(tactic| first
  | with_reducible assumption
  | exact upd_same
  | (((with_reducible apply Rd.keep); (with_reducible assumption)); walk_at "hp"))
local macro_rules | `(tactic| walk_at "slot") => `(tactic| first | with_reducible apply Rd.slot0 | with_reducible apply Rd.slot1 | with_reducible apply Rd.slot2 | with_reducible apply Rd.slot3 | with_reducible apply Rd.slot4 | with_reducible apply Rd.slot5 | with_reducible apply Rd.slot6 | with_reducible apply Rd.slot7 | with_reducible apply Rd.slot8 | with_reducible apply Rd.slot9 | with_reducible apply Rd.slot10 | with_reducible apply Rd.slot11 | with_reducible apply Rd.slot12 | with_reducible apply Rd.slot13 | with_reducible apply Rd.slot14 | with_reducible apply Rd.slot15 | with_reducible apply Rd.slot16 | with_reducible apply Rd.slot17 | with_reducible apply Rd.slot18 | with_reducible apply Rd.slot19 | with_reducible apply Rd.slot20 | with_reducible apply Rd.slot21 | with_reducible apply Rd.slot22 | with_reducible apply Rd.slot23)
local macro_rules | `(tactic| walk_at "dg") => `(tactic| first | exact g_left | exact g_at | exact g_cells | exact g_mix)
local macro_rules | `(tactic| walk_at "dp") => `(tactic| first | exact p_left | exact p_at | exact p_mix)
local macro_rules | `(tactic| walk_at "le") => `(tactic| first | decide | (simp only [List.length_map, List.length_append]; omega) | omega)
local macro_rules | `(tactic| walk_at "side") => `(tactic| first
  | with_reducible assumption
  | exact Rd.cmulL (by omega) (by omega)
  | exact Rd.cmulR (by omega) (by omega)
  | exact Rd.cpow (by decide) (by decide) (by decide)
  | exact Rd.cdiv (by omega) (by omega)
  | omega)
local macro_rules | `(tactic| walk_at "sq") => `(tactic| first
  | with_reducible assumption
  | exact SqL.of (by walk_at "hp")
  | exact SqT.of (by walk_at "hp"))
local macro_rules | `(tactic| walk_at "at") => `(tactic| first | with_reducible assumption | exact Rd.at0 | exact Rd.at1 | exact Rd.at2 | exact Rd.at3 | exact Rd.at4)
local macro_rules | `(tactic| walk_at "own") => `(tactic| fail)
local macro_rules | `(tactic| walk_at "rd") => `(tactic| repeat (first
  | ((with_reducible apply Rd.var); exact rfl)
  | with_reducible apply Rd.cst
  | with_reducible apply Rd.notn
  | with_reducible apply Rd.isn
  | with_reducible apply Rd.op
  | with_reducible apply Rd.un
  | with_reducible apply Rd.i0
  | with_reducible apply Rd.u1
  | with_reducible apply Rd.eqI
  | with_reducible apply Rd.neI
  | with_reducible apply Rd.eqB
  | with_reducible apply Rd.eqS
  | with_reducible apply Rd.neS
  | with_reducible apply Rd.tst
  | with_reducible apply Rd.tB
  | with_reducible apply Rd.blk
  | with_reducible apply iteF
  | with_reducible apply iteT
  | with_reducible apply Rd.iteNt
  | with_reducible apply Rd.iteNf
  | with_reducible apply Rd.tnot
  | with_reducible apply Rd.tand
  | with_reducible apply Rd.tor
  | with_reducible apply Rd.andV
  | with_reducible apply Rd.orV
  | with_reducible apply Rd.notV
  | with_reducible apply Rd.ifE
  | with_reducible apply Rd.chain
  | with_reducible apply Rd.anil
  | with_reducible apply Rd.acons
  | with_reducible apply Rd.cbInt
  | with_reducible apply Rd.cbAbs
  | with_reducible apply Rd.cbMin
  | with_reducible apply Rd.cbMax
  | with_reducible apply Rd.cbLen
  | ((with_reducible apply Rd.lenL); (walk_at "sq"))
  | ((with_reducible apply Rd.lenT); (walk_at "sq"))
  | with_reducible apply Rd.min2
  | with_reducible apply Rd.max2
  | with_reducible apply Rd.cbTup
  | with_reducible apply Rd.cbLst
  | with_reducible apply Rd.cb
  | ((with_reducible apply Rd.ixL); (walk_at "sq"); (walk_at "at"))
  | ((with_reducible apply Rd.ixT); (walk_at "sq"); (walk_at "at"))
  | with_reducible apply Rd.call
  | with_reducible apply Rd.int1
  | with_reducible apply Rd.abs1
  | with_reducible apply Rd.lst
  | with_reducible apply Rd.tup
  | with_reducible apply Rd.dget
  | with_reducible apply Rd.dput
  | ((with_reducible apply Rd.dgetS); (walk_at "hp"); (walk_at "dg"))
  | ((with_reducible apply Rd.dputS); (walk_at "hp"); (walk_at "le"); (walk_at "dp"))
  | ((with_reducible apply Rd.i1); (walk_at "side"))
  | with_reducible apply Rd.seq
  | with_reducible apply Rd.nxt
  | with_reducible apply Rd.asg
  | walk_at "slot"
  | with_reducible apply Rd.ret
  | with_reducible apply Rd.retN
  | with_reducible apply Rd.ifS
  | with_reducible apply Rd.drop
  | with_reducible apply Rd.brk
  | with_reducible apply Rd.cnt
  | with_reducible apply Rd.pcons
  | with_reducible apply Rd.pnil
  | with_reducible apply Rd.lcl
  | with_reducible apply Rd.lct
  | with_reducible apply Rd.gname
  | with_reducible apply Rd.yes
  | ((with_reducible apply Rd.wip); (exact rfl))
  | with_reducible apply Rd.forl
  | with_reducible apply Rd.fort
  | with_reducible apply Rd.forr
  | with_reducible apply Rd.forr2
  | with_reducible apply Rd.sl
  | with_reducible apply Rd.part
  | with_reducible apply Rd.part1
  | with_reducible apply Rd.nopart
  | with_reducible apply Rd.lcr1
  | with_reducible apply Rd.asgT
  | ((with_reducible apply Rd.gtup); (walk_at "sq"); (exact rfl))
  | with_reducible apply Rd.gcons
  | with_reducible apply Rd.gnil
  | with_reducible apply Rd.gtupV
  | with_reducible apply Rd.dnotin
  | ((with_reducible apply Rd.dnI); (walk_at "hp"))
  | ((with_reducible apply Rd.dgetI); (walk_at "hp"); (with_reducible assumption))
  | with_reducible apply Rd.asgS
  | with_reducible apply Rd.bm
  | ((with_reducible apply Rd.bmL); (walk_at "hp"))
  | with_reducible apply Rd.neB
  | with_reducible apply Rd.notnN
  | with_reducible apply Rd.notnB
  | with_reducible apply Rd.notnI
  | with_reducible apply Rd.isnN
  | with_reducible apply Rd.isnI
  | walk_at "own"))
local macro_rules | `(tactic| walk_at "dec") => `(tactic| first
  | ((with_reducible apply Rd.iteP); (first | with_reducible assumption | exact rfl | decide | omega))
  | ((with_reducible apply Rd.iteM); (first | with_reducible assumption | exact rfl | decide | omega))
  | ((with_reducible apply Rd.iteNP); (first | with_reducible assumption | exact rfl | decide | omega))
  | ((with_reducible apply Rd.iteNM); (first | with_reducible assumption | exact rfl | decide | omega)))
local macro_rules | `(tactic| walk_at "go") => `(tactic| (walk_at "rd"; (repeat (walk_at "dec"; walk_at "rd"))))
section
open Rd
variable {P : Program} {w : World} {K : PySem.W.Frag} {mg : Str → Option Value} {base : Heap}
def limI (v : Int) : Int := if 0 ≤ v then v else -v - 1
/-- the cells from s on lead to the tick t -/
inductive ScanTo (D : Den) (e s : Int) : List (Int × Int × Bool) → Int → Prop
  | nil : ScanTo D e s [] s
  | snoc {cs t k} (h : ScanTo D e s cs t) (ht : t ≤ e) (l : Longest D.far (limI (D.val t)) (e - t) k) : ScanTo D e s (cs ++ [(t, k, decide (0 ≤ D.val t))]) (t + k + 1)
theorem ScanTo.len {D : Den} {e s t : Int} {cs : List (Int × Int × Bool)} (h : ScanTo D e s cs t) (h0 : s ≤ e + 1) : (cs.length : Int) ≤ t - s ∧ t ≤ e + 1 := by
  induction h with
  | nil => simp; omega
  | snoc h ht l ih =>
    obtain ⟨l0, l1, _⟩ := l
    rw [List.length_append, List.length_singleton]
    omega
def cellV (c : Int × Int × Bool) : List V := [.int c.1, .int c.2.1, .bl c.2.2]
theorem PlanAt.but2 {C : Addr} {H H' : Hp} {p a d x y : Addr} {o : Option V} {rs : List PRow} {xs ys : List V} (A : PlanAt P w C H p a d o rs) (hx : H x = some (.lst xs)) (hy : H y = some (.lst ys)) (n1 : a ≠ x) (n2 : a ≠ y) (s : But2 x y H H') : PlanAt P w C H' p a d o rs := by
  obtain ⟨⟨dx, hp⟩, ha, hd, keys⟩ := A
  have k : ∀ c o, (∀ zs, o ≠ HO.lst zs) → H c = some o → H' c = some o := fun c o g z => s c o (ne_of z hx (fun u => g _ u)) (ne_of z hy (fun u => g _ u)) z
  exact ⟨⟨dx, k _ _ (fun _ u => by cases u) hp⟩, s _ _ n1 n2 ha, k _ _ (fun _ u => by cases u) hd, fun i r z => ⟨Rd.NK.sub (fun c zs u => k _ _ (fun _ u => by cases u) u) _ _ (keys i r z).1, (keys i r z).2⟩⟩
theorem Lad.lay {C : Addr} {H : Hp} {p : Addr} {v : V} {a b D : Addr} {ks fs : List Int} {xs ys : List V} (L : Lad C H p v a b ks fs) (hD : H D = some (.lst xs)) (n1 : a ≠ D) (n2 : b ≠ D) : Lad C (upd H D (.lst ys)) p v a b ks fs := by
  obtain ⟨⟨dx, hp⟩, hs, hr, ne⟩ := L
  exact ⟨⟨dx, keepN (ne_of hp hD (by intro z; cases z)) hp⟩, keepN n1 hs, keepN n2 hr, ne⟩
theorem Lad.same {C : Addr} {H H' : Hp} {p : Addr} {v : V} {a b : Addr} {ks fs : List Int} (L : Lad C H p v a b ks fs) (s : Same H H') : Lad C H' p v a b ks fs := by
  obtain ⟨⟨dx, hp⟩, hs, hr, ne⟩ := L
  exact ⟨⟨dx, s _ _ hp⟩, s _ _ hs, s _ _ hr, ne⟩
def spScan (K : PySem.W.Frag) (n : Nat) : Sp := fun vs H Q _ => ∃ (v : V) (s e : Int) (D : Den), vs = [v, .int s, .int e] ∧ Ex K H n true v D ∧ (n ≤ 20 ∧ D.most ≤ Big) ∧ D.size ≤ 1000 ∧ s ≤ e + 1 ∧ e - s ≤ 900 ∧
  ∀ H' r ps cs t, H' r = some (.lst (ps.map V.ref)) → Rows H' ps (cs.map cellV) → ScanTo D e s cs t → e < t → Same H H' → H r = none → (∀ p ∈ ps, H p = none) → Q (.ref r) H'
theorem scan_go {n : Nat} {H : Hp} {Q : VK} {E : XK} {v : V} {s e : Int} {D : Den} (h : Ex K H n true v D) (hn : (n ≤ 20 ∧ D.most ≤ Big)) (hz : D.size ≤ 1000) (h0 : s ≤ e + 1) (h1 : e - s ≤ 900)
    (q : ∀ H' r ps cs t, H' r = some (.lst (ps.map V.ref)) → Rows H' ps (cs.map cellV) → ScanTo D e s cs t → e < t → Same H H' → H r = none → (∀ p ∈ ps, H p = none) → Q (.ref r) H') : CALL (spScan K n) [v, .int s, .int e] H Q E := ⟨v, s, e, D, rfl, h, hn, hz, h0, h1, q⟩
local macro_rules | `(tactic| walk_at "lk") => `(tactic| first | exact pl_no _ _ _ (by decide +kernel) (by decide +kernel) (by decide +kernel) | exact lad_no _ _ _ (by decide +kernel) (by decide +kernel) (by decide +kernel))
local macro_rules | `(tactic| walk_at "own") => `(tactic| first
  | with_reducible apply Rd.meth
  | ((with_reducible apply Rd.methI); (walk_at "hp"); (walk_at "lk")))
set_option maxHeartbeats 8000000 in
theorem ok_scan (T : Txt K mg) {n l : Nat} (R : ∃ (f : Addr) (fd : FuncData), FnOk P w K mg base CX0 l f fd ["q", "k"] (spFar K n true) ∧ mg "reach" = some (.ref f) ∧ PySem.W.keepIn K (.ref f) = true ∧ L2.Binds K fd ["q", "k"] []) :
    ∃ (f : Addr) (fd : FuncData), FnOk P w K mg base CX0 (l + n + 6) f fd ["q", "start", "end"] (spScan K n) ∧ mg "_scan" = some (.ref f) ∧ PySem.W.keepIn K (.ref f) = true ∧ L2.Binds K fd ["q", "start", "end"] [] := by
  obtain ⟨f, fd, F, g, bi⟩ := T.d__scan
  obtain ⟨C1, C_Plan⟩ := T.k_Plan
  obtain ⟨C2, C_Ladder⟩ := T.k_Ladder
  obtain ⟨f_pi, fd_pi, MK_Plan, G_Plan__init, b_Plan__init⟩ := ok_planInit (P := P) (w := w) (base := base) T C_Plan n
  obtain ⟨f_pv, fd_pv, M_Plan__value, G_Plan__value, b_Plan__value⟩ := ok_planVal (P := P) (w := w) (base := base) T C_Plan
  obtain ⟨f_li, fd_li, MK_Ladder, G_Ladder__init, b_Ladder__init⟩ := ok_ladInit T C_Ladder R
  obtain ⟨f_ll, fd_ll, M_Ladder__longest, G_Ladder__longest, b_Ladder__longest⟩ := ok_longest T C_Ladder R
  refine ⟨f, fd, ?_, g, F.kp, bi⟩
  refine F.ok sc__scan (fun vs H Q E h => ?_) (fun cdv A outer s H vs Q E hr h => ?_)
  · obtain ⟨_, _, _, _, rfl, _⟩ := h; rfl
  · obtain ⟨v, s, e, D, rfl, h, hn, hz, h0, h1, q⟩ := h
    have G := h.good
    refine ⟨_, (pss_cons (ps_set (i := 3) sc__scan.nd rfl (by first | exact Or.inl rfl | exact Or.inr rfl) (pe_make MK_Plan G_Plan__init (hr.mono (by omega)) (by rfl) C_Plan.mg_ b_Plan__init .nil pass0 (pa_cons (pv 0) pa_nil)))
      (pss_cons (ps_set (i := 4) sc__scan.nd rfl (by first | exact Or.inl rfl | exact Or.inr rfl) (pe_make MK_Ladder G_Ladder__init (hr.mono (by omega)) (by rfl) C_Ladder.mg_ b_Ladder__init .nil pass0 (pa_cons (pv 0) pa_nil)))
      (pss_cons (ps_set (i := 5) sc__scan.nd rfl (by first | exact Or.inl rfl | exact Or.inr rfl) (pe_lst pa_nil))
      (pss_cons (ps_set (i := 6) sc__scan.nd rfl (by first | exact Or.inl rfl | exact Or.inr rfl) (pv 1))
      (pss_cons (ps_while PassesOwn.never (pt_cmpR op_le (pv 6) (pv 2) (nomark _)) (pss_cons (ps_set (i := 7) sc__scan.nd rfl (by first | exact Or.inl rfl | exact Or.inr rfl) (pe_meth (pv 3) C_Plan.cl M_Plan__value G_Plan__value (hr.mono (by omega)) b_Plan__value .nil pass0 (pa_cons (pv 6) pa_nil)))
      (pss_cons (ps_set (i := 8) sc__scan.nd rfl (by first | exact Or.inl rfl | exact Or.inr rfl) (pe_ifExp (pt_cmpR op_ge (pv 7) pe_int (nomark _)) (pv 7) (pe_op op_sub (pe_un un_neg (pv 7)) pe_int)))
      (pss_cons (ps_set (i := 9) sc__scan.nd rfl (by first | exact Or.inl rfl | exact Or.inr rfl) (pe_meth (pv 4) C_Ladder.cl M_Ladder__longest G_Ladder__longest (hr.mono (by omega)) b_Ladder__longest .nil pass0 (pa_cons (pv 8) (pa_cons (pe_op op_sub (pv 2) (pv 6)) pa_nil))))
      (pss_cons (ps_expr (pe_bm PySem.F.plainAttrs_list PySem.F.slot_list_append PySem.F.type_list_append mt_append (pv 5) (pa_cons (pe_tup (pa_cons (pv 6) (pa_cons (pv 9) (pa_cons (pe_cmpR op_ge (pv 7) pe_int (nomark _)) pa_nil)))) pa_nil)))
      (pss_one (ps_set (i := 6) sc__scan.nd rfl (by first | exact Or.inl rfl | exact Or.inr rfl) (pe_op op_add (pe_op op_add (pv 6) (pv 9)) pe_int))))))))
      (pss_one (ps_ret (pv 5)))))))), ?_⟩
    refine Rd.start (σ' := [some v, some (.int s), some (.int e), none, none, none, none, none, none, none]) rfl ?_
    try dsimp only [cxOf, Cx.nox, Cx.wish]
    walk_at "go"
    refine Rd.make ?_
    walk_at "go"
    refine plan_make h hn.1 hz fun H1 p1 a1 d1 rs i A1 m1 l1 s1 np1 na1 nd1 => ?_
    walk_at "go"
    refine Rd.make ?_
    walk_at "go"
    refine lad_make (h.sub (TupK.same s1)) (by omega) fun H2 p2 a2 b2 Ld s2 np2 na2 nb2 => ?_
    walk_at "go"
    refine Rd.new (by simp) fun r nr => ?_
    walk_at "go"
    have s3 : Same H2 (upd H2 r (.lst [])) := Same.put nr
    have A3 := (A1.same s2).same s3
    have L3 := Ld.same s3
    have ar : a1 ≠ r := ne_of_none (A1.same s2).rows nr
    have a2r : a2 ≠ r := ne_of_none Ld.st nr
    have b2r : b2 ≠ r := ne_of_none Ld.re nr
    have a12 : a1 ≠ a2 := ne_of_none A1.rows na2
    have a1b : a1 ≠ b2 := ne_of_none A1.rows nb2
    have r0 : H r = none := s1.free (s2.free nr)
    have f1 : H a2 = none := s1.free na2
    have f2 : H b2 = none := s1.free nb2
    have e3 : (upd H2 r (HO.lst [])) r = some (.lst []) := upd_same
    have s13 := s1.trans (s2.trans s3)
    generalize upd H2 r (HO.lst []) = H3 at *
    refine Rd.whl (fun σ H' => ∃ (t : Int) (x1 x2 x3 : Option V) (cs : List (Int × Int × Bool)) (ps : List Addr) (ks : List Int), σ = [some v, some (.int s), some (.int e), some (.ref p1), some (.ref p2), some (.ref r), some (.int t), x1, x2, x3] ∧
        PlanAt P w C1 H' p1 a1 d1 (some (.int i)) rs ∧ Lad C2 H' p2 v a2 b2 ks (ks.map D.far) ∧ LOk 900 ks ∧ H' r = some (.lst (ps.map V.ref)) ∧ Rows H' ps (cs.map cellV) ∧ ScanTo D e s cs t ∧ Same H H' ∧ ∀ p ∈ ps, H p = none)
      (fun σ _ => match σ with | [_, _, _, _, _, _, some (.int t), _, _, _] => (e + 1 - t).toNat | _ => 0)
      ⟨s, none, none, none, [], [], [0], rfl, A3, L3, ⟨by simp, rfl, by simp, by simp⟩, e3, trivial, .nil, s13, fun p hp => by cases hp⟩ (fun σ' H' z => ?_)
    obtain ⟨t, x1, x2, x3, cs, ps, ks, rfl, A4, L4, O4, e4, R4, S4, sm, nps⟩ := z
    have len := S4.len h0
    have pl := R4.len
    rw [List.length_map] at pl
    obtain ⟨dxp, hp4⟩ := A4.at_
    by_cases c1 : t ≤ e
    · walk_at "go"
      refine Rd.wb ?_
      walk_at "go"
      refine planVal_go A4 m1 l1 fun H5 s5 => ?_
      obtain ⟨dxl, hl5⟩ := (L4.same s5).at_
      have e5 := s5 _ _ e4
      have lim0 : 0 ≤ limI (D.val t) := by unfold limI; split <;> omega
      have tail : ∀ (H6 : Hp) (ks' : List Int) (k : Int), Lad C2 H6 p2 v a2 b2 ks' (ks'.map D.far) → LOk 900 ks' → Longest D.far (limI (D.val t)) (e - t) k → But2 a2 b2 H5 H6 → ∀ b, H6 b = none → 
          (PlanAt P w C1 (upd (upd H6 b (.tup (cellV (t, k, decide (0 ≤ D.val t))))) r (.lst (ps.map V.ref ++ [.ref b]))) p1 a1 d1 (some (.int i)) rs ∧ Lad C2 (upd (upd H6 b (.tup (cellV (t, k, decide (0 ≤ D.val t))))) r (.lst (ps.map V.ref ++ [.ref b]))) p2 v a2 b2 ks' (ks'.map D.far) ∧
            (upd (upd H6 b (.tup (cellV (t, k, decide (0 ≤ D.val t))))) r (.lst (ps.map V.ref ++ [.ref b]))) r = some (.lst ((ps ++ [b]).map V.ref)) ∧ Rows (upd (upd H6 b (.tup (cellV (t, k, decide (0 ≤ D.val t))))) r (.lst (ps.map V.ref ++ [.ref b]))) (ps ++ [b]) ((cs ++ [(t, k, decide (0 ≤ D.val t))]).map cellV) ∧
            Same H (upd (upd H6 b (.tup (cellV (t, k, decide (0 ≤ D.val t))))) r (.lst (ps.map V.ref ++ [.ref b]))) ∧ ∀ p ∈ ps ++ [b], H p = none) := by
        intro H6 ks' k L6 O6 lg s6 b nb
        have e6 := s6 _ _ a2r.symm b2r.symm e5
        have sp : Same H6 (upd H6 b (.tup (cellV (t, k, decide (0 ≤ D.val t))))) := Same.put nb
        have e7 := sp _ _ e6
        have hb7 : (upd H6 b (.tup (cellV (t, k, decide (0 ≤ D.val t))))) b = some (.tup (cellV (t, k, decide (0 ≤ D.val t)))) := upd_same
        have t56 : TupSub H5 H6 := But2.tups s6 (L4.same s5).st (L4.same s5).re
        have A7 := ((A4.same s5).but2 (L4.same s5).st (L4.same s5).re a12 a1b s6).same sp
        have L7 := L6.same sp
        have R7 : Rows (upd H6 b (.tup (cellV (t, k, decide (0 ≤ D.val t))))) ps (cs.map cellV) := Rows.sub (TupSub.same sp) (Rows.sub t56 (Rows.sub (TupSub.same s5) R4))
        have sm7 : Same H (upd H6 b (.tup (cellV (t, k, decide (0 ≤ D.val t))))) := fun c o z => sp _ _ (s6 _ _ (ne_of_none z f1) (ne_of_none z f2) (s5 _ _ (sm _ _ z)))
        generalize upd H6 b (.tup (cellV (t, k, decide (0 ≤ D.val t)))) = H7 at *
        have t8 : TupSub H7 (upd H7 r (.lst (ps.map V.ref ++ [.ref b]))) := fun c zs z => keepN (ne_of z e7 (by intro u; cases u)) z
        have nbH : H b = none := by
          cases z : H b with
          | none => rfl
          | some o => rw [s6 _ _ (ne_of_none z f1) (ne_of_none z f2) (s5 _ _ (sm _ _ z))] at nb; cases nb
        refine ⟨A7.lay e7 ar, L7.lay e7 a2r b2r, by rw [List.map_append]; exact upd_same, ?_, Same.mut sm7 r0, fun p hp => ?_⟩
        rotate_left
        · rcases List.mem_append.mp hp with hp | hp
          · exact nps p hp
          · rw [List.mem_singleton] at hp
            subst hp
            exact nbH
        rw [List.map_append]
        exact Rows.append (Rows.sub t8 R7) ⟨t8 _ _ hb7, trivial⟩
      have done : ∀ k, Longest D.far (limI (D.val t)) (e - t) k → (e + 1 - (t + k + 1)).toNat < (e + 1 - t).toNat := fun k lg => by
        obtain ⟨g0, g1, _⟩ := lg
        omega
      by_cases c2 : 0 ≤ D.val t
      · have el : limI (D.val t) = D.val t := if_pos c2
        walk_at "go"
        refine longest_go (L4.same s5) (h.sub (TupK.same (sm.trans s5))) hn O4 (by omega) (by omega) (by omega) (by decide) fun H6 ks6 k L6 O6 lg s6 => ?_
        rw [← el] at lg
        have e6 := s6 _ _ a2r.symm b2r.symm e5
        walk_at "go"
        refine Rd.new (by simp) fun b nb => ?_
        obtain ⟨g1, g2, g3, g4, g5, g6⟩ := tail H6 ks6 k L6 O6 lg s6 b nb
        walk_at "go"
        refine Rd.app (keep nb e6) (by rw [List.length_map]; omega) ?_
        walk_at "go"
        exact ⟨⟨_, _, _, _, _, _, ks6, rfl, g1, g2, O6, g3, g4, S4.snoc c1 lg, g5, g6⟩, done k lg⟩
      · have el : limI (D.val t) = -(D.val t) - 1 := if_neg c2
        walk_at "go"
        refine longest_go (L4.same s5) (h.sub (TupK.same (sm.trans s5))) hn O4 (by omega) (by omega) (by omega) (by decide) fun H6 ks6 k L6 O6 lg s6 => ?_
        rw [← el] at lg
        have e6 := s6 _ _ a2r.symm b2r.symm e5
        walk_at "go"
        refine Rd.new (by simp) fun b nb => ?_
        obtain ⟨g1, g2, g3, g4, g5, g6⟩ := tail H6 ks6 k L6 O6 lg s6 b nb
        walk_at "go"
        refine Rd.app (keep nb e6) (by rw [List.length_map]; omega) ?_
        walk_at "go"
        exact ⟨⟨_, _, _, _, _, _, ks6, rfl, g1, g2, O6, g3, g4, S4.snoc c1 lg, g5, g6⟩, done k lg⟩
    · walk_at "go"
      exact q H' r ps cs t e4 R4 S4 (by omega) sm r0 nps
end

end K11

set_option Elab.async false
set_option linter.all false
set_option maxRecDepth 100000
namespace K11
open PySem PySem.Spec PyProof.Rows L2
/-! ### expressions as data -/
inductive EX : Nat → Bool → PyData → Den → Prop
  | qnum {n i} (l : Lim i) : EX (n + 1) true (.tuple [.str "number", .int i]) (dNum i)
  | qwave {n b g} (l : EX n false b g) : EX (n + 1) true (.tuple [.str "wave", b]) (dWave g)
  | qsum {n xs gs} (e : xs.length = gs.length) (l0 : 0 < xs.length) (l1 : xs.length ≤ 1000) (l : ∀ (i : Nat) x g, xs[i]? = some x → gs[i]? = some g → EX n true x g) : EX (n + 1) true (.tuple (.str "sum" :: xs)) (dSum gs)
  | qshare {n b g i d} (l : EX n true b g) (li : Lim i) (ld : Dv d) : EX (n + 1) true (.tuple [.str "share", b, .int i, .int d]) (dShare g i d)
  | qprod {n b c g f d} (l : EX n true b g) (l2 : EX n true c f) (ld : Dv d) (hb : g.most ≤ BM ∧ f.most ≤ BM) : EX (n + 1) true (.tuple [.str "product", b, c, .int d]) (dProd g f d)
  | qlater {n b g i} (l : EX n true b g) (li : Lim i) : EX (n + 1) true (.tuple [.str "later", b, .int i]) (dLater g i)
  | aturn {n s i d} (ls : Lim s) (li : Lim i) (ld : Dv d) : EX (n + 1) false (.tuple [.str "turning", .int s, .int i, .int d]) (dTurn s i d)
  | amoved {n b c g f} (l : EX n false b g) (l2 : EX n true c f) : EX (n + 1) false (.tuple [.str "moved", b, c]) (dMoved g f)
  | aminus {n b c g f} (l : EX n false b g) (l2 : EX n false c f) : EX (n + 1) false (.tuple [.str "minus", b, c]) (dMinus g f)
theorem EX.up1 {n : Nat} {k : Bool} {d : PyData} {D : Den} (h : EX n k d D) : EX (n + 1) k d D := by
  induction h with
  | qnum l => exact .qnum l
  | qwave l ih => exact .qwave ih
  | qsum e l0 l1 l ih => exact .qsum e l0 l1 ih
  | qshare l li ld ih => exact .qshare ih li ld
  | qprod l l2 ld hb ih ih2 => exact .qprod ih ih2 ld hb
  | qlater l li ih => exact .qlater ih li
  | aturn ls li ld => exact .aturn ls li ld
  | amoved l l2 ih ih2 => exact .amoved ih ih2
  | aminus l l2 ih ih2 => exact .aminus ih ih2
theorem EX.up {n m : Nat} {k : Bool} {d : PyData} {D : Den} (h : EX n k d D) (l : n ≤ m) : EX m k d D := by
  induction l with
  | refl => exact h
  | step _ ih => exact ih.up1
theorem EX.uniq {n : Nat} {k : Bool} {d : PyData} {D : Den} (h : EX n k d D) : ∀ {m : Nat} {D' : Den}, EX m k d D' → D = D' := by
  induction h with
  | qnum l => intro m D' g; cases g; rfl
  | qwave l ih => intro m D' g; cases g with | qwave l' => rw [ih l']
  | @qsum n xs gs e l0 l1 l ih =>
    intro m D' g
    cases g with
    | @qsum m xs' gs' e' l0' l1' l' =>
      have : gs = gs' := by
        apply List.ext_getElem?
        intro i
        by_cases h : i < gs.length
        · have hx : xs[i]? = some xs[i] := List.getElem?_eq_getElem (by omega)
          rw [List.getElem?_eq_getElem h, List.getElem?_eq_getElem (by omega)]
          exact congrArg some (ih i _ _ hx (List.getElem?_eq_getElem h) (l' i _ _ hx (List.getElem?_eq_getElem (by omega))))
        · rw [List.getElem?_eq_none (by omega), List.getElem?_eq_none (by omega)]
      rw [this]
  | qshare l li ld ih => intro m D' g; cases g with | qshare l' _ _ => rw [ih l']
  | qprod l l2 ld hb ih ih2 => intro m D' g; cases g with | qprod l' l2' _ _ => rw [ih l', ih2 l2']
  | qlater l li ih => intro m D' g; cases g with | qlater l' _ => rw [ih l']
  | aturn ls li ld => intro m D' g; cases g; rfl
  | amoved l l2 ih ih2 => intro m D' g; cases g with | amoved l' l2' => rw [ih l', ih2 l2']
  | aminus l l2 ih ih2 => intro m D' g; cases g with | aminus l' l2' => rw [ih l', ih2 l2']
theorem rp_tup {K : PySem.W.Frag} {F : Hp} {v : V} {ds : List PyData} (h : Mi.Rp K F v (.tuple ds)) : ∃ p xs, v = .ref p ∧ SqT K F p xs ∧ Mi.RpA K F xs ds := by
  cases h with
  | tup h1 h2 => exact ⟨_, _, rfl, h1, h2⟩
theorem rpa_cons {K : PySem.W.Frag} {F : Hp} {xs : List V} {d : PyData} {ds : List PyData} (h : Mi.RpA K F xs (d :: ds)) : ∃ x ys, xs = x :: ys ∧ Mi.Rp K F x d ∧ Mi.RpA K F ys ds := by
  cases h with
  | cons h1 h2 => exact ⟨_, _, rfl, h1, h2⟩
theorem rpa_nil {K : PySem.W.Frag} {F : Hp} {xs : List V} (h : Mi.RpA K F xs []) : xs = [] := by cases h; rfl
theorem rp_int {K : PySem.W.Frag} {F : Hp} {v : V} {i : Int} (h : Mi.Rp K F v (.int i)) : v = .int i := by cases h; rfl
theorem rp_str {K : PySem.W.Frag} {F : Hp} {v : V} {x : Str} (h : Mi.Rp K F v (.str x)) : v = .str x := by cases h; rfl
theorem EX.ex {K : PySem.W.Frag} {F : Hp} {n : Nat} {k : Bool} {d : PyData} {D : Den} (h : EX n k d D) : ∀ {v : V}, Mi.Rp K F v d → Ex K F n k v D := by
  induction h with
  | qnum l =>
    intro v r
    obtain ⟨p, xs, rfl, h, a⟩ := rp_tup r
    obtain ⟨w, _, rfl, r1, a⟩ := rpa_cons a
    obtain ⟨x, _, rfl, r2, a⟩ := rpa_cons a
    rw [rpa_nil a, rp_str r1, rp_int r2] at h
    exact .qnum h l
  | qwave l ih =>
    intro v r
    obtain ⟨p, xs, rfl, h, a⟩ := rp_tup r
    obtain ⟨w, _, rfl, r1, a⟩ := rpa_cons a
    obtain ⟨x, _, rfl, r2, a⟩ := rpa_cons a
    rw [rpa_nil a, rp_str r1] at h
    exact .qwave h (ih r2)
  | @qsum n ds gs e l0 l1 l ih =>
    intro v r
    obtain ⟨p, xs, rfl, h, a⟩ := rp_tup r
    obtain ⟨w, ys, rfl, r1, a⟩ := rpa_cons a
    rw [rp_str r1] at h
    have hl := a.length
    refine .qsum h (by omega) (by omega) (by omega) fun i x g hx hg => ?_
    obtain ⟨y, hy, ry⟩ := a.get hx
    exact ih i y g hy hg ry
  | qshare l li ld ih =>
    intro v r
    obtain ⟨p, xs, rfl, h, a⟩ := rp_tup r
    obtain ⟨w, _, rfl, r1, a⟩ := rpa_cons a
    obtain ⟨x, _, rfl, r2, a⟩ := rpa_cons a
    obtain ⟨y, _, rfl, r3, a⟩ := rpa_cons a
    obtain ⟨z, _, rfl, r4, a⟩ := rpa_cons a
    rw [rpa_nil a, rp_str r1, rp_int r3, rp_int r4] at h
    exact .qshare h (ih r2) li ld
  | qprod l l2 ld hb ih ih2 =>
    intro v r
    obtain ⟨p, xs, rfl, h, a⟩ := rp_tup r
    obtain ⟨w, _, rfl, r1, a⟩ := rpa_cons a
    obtain ⟨x, _, rfl, r2, a⟩ := rpa_cons a
    obtain ⟨y, _, rfl, r3, a⟩ := rpa_cons a
    obtain ⟨z, _, rfl, r4, a⟩ := rpa_cons a
    rw [rpa_nil a, rp_str r1, rp_int r4] at h
    exact .qprod h (ih r2) (ih2 r3) ld hb
  | qlater l li ih =>
    intro v r
    obtain ⟨p, xs, rfl, h, a⟩ := rp_tup r
    obtain ⟨w, _, rfl, r1, a⟩ := rpa_cons a
    obtain ⟨x, _, rfl, r2, a⟩ := rpa_cons a
    obtain ⟨y, _, rfl, r3, a⟩ := rpa_cons a
    rw [rpa_nil a, rp_str r1, rp_int r3] at h
    exact .qlater h (ih r2) li
  | aturn ls li ld =>
    intro v r
    obtain ⟨p, xs, rfl, h, a⟩ := rp_tup r
    obtain ⟨w, _, rfl, r1, a⟩ := rpa_cons a
    obtain ⟨x, _, rfl, r2, a⟩ := rpa_cons a
    obtain ⟨y, _, rfl, r3, a⟩ := rpa_cons a
    obtain ⟨z, _, rfl, r4, a⟩ := rpa_cons a
    rw [rpa_nil a, rp_str r1, rp_int r2, rp_int r3, rp_int r4] at h
    exact .aturn h ls li ld
  | amoved l l2 ih ih2 =>
    intro v r
    obtain ⟨p, xs, rfl, h, a⟩ := rp_tup r
    obtain ⟨w, _, rfl, r1, a⟩ := rpa_cons a
    obtain ⟨x, _, rfl, r2, a⟩ := rpa_cons a
    obtain ⟨y, _, rfl, r3, a⟩ := rpa_cons a
    rw [rpa_nil a, rp_str r1] at h
    exact .amoved h (ih r2) (ih2 r3)
  | aminus l l2 ih ih2 =>
    intro v r
    obtain ⟨p, xs, rfl, h, a⟩ := rp_tup r
    obtain ⟨w, _, rfl, r1, a⟩ := rpa_cons a
    obtain ⟨x, _, rfl, r2, a⟩ := rpa_cons a
    obtain ⟨y, _, rfl, r3, a⟩ := rpa_cons a
    rw [rpa_nil a, rp_str r1] at h
    exact .aminus h (ih r2) (ih2 r3)
theorem EX.dg {n : Nat} {k : Bool} {d : PyData} {D : Den} (h : EX n k d D) : DG n k D := by
  induction h with
  | qnum l => exact .qnum (p := ()) trivial l
  | qwave l ih => exact .qwave (p := ()) (b := ()) trivial ih
  | @qsum n xs gs e l0 l1 l ih => exact .qsum (p := ()) (xs := xs.map fun _ => ()) trivial (by rw [List.length_map]; exact e) (by rw [List.length_map]; exact l0) (by rw [List.length_map]; exact l1) fun i x g hx hg => (unit_get hx).elim fun y hy => ih i y g hy hg
  | qshare l li ld ih => exact .qshare (p := ()) (b := ()) trivial ih li ld
  | qprod l l2 ld hb ih ih2 => exact .qprod (p := ()) (b := ()) (c := ()) trivial ih ih2 ld
  | qlater l li ih => exact .qlater (p := ()) (b := ()) trivial ih li
  | aturn ls li ld => exact .aturn (p := ()) trivial ls li ld
  | amoved l l2 ih ih2 => exact .amoved (p := ()) (b := ()) (c := ()) trivial ih ih2
  | aminus l l2 ih ih2 => exact .aminus (p := ()) (b := ()) (c := ()) trivial ih ih2
theorem EX.good {n : Nat} {k : Bool} {d : PyData} {D : Den} (h : EX n k d D) : Good k n D := h.dg.good
/-! waves -/
def f_wave : Mi.MF := fun ds => match ds with
  | [.int x] => .ok (.int (wave x))
  | _ => .stuck
theorem wave_spec {K : PySem.W.Frag} {mg : Str → Option Value} {vs : List V} {H : Hp} {Q : VK} {E : XK} (h : Mi.spP K mg 1 f_wave vs H Q E) : spWave vs H Q E := by
  obtain ⟨_, F, ds, sF, ra, g⟩ := h
  unfold f_wave at g
  split at g
  · rename_i x
    obtain ⟨v, _, rfl, rv, ra⟩ := rpa_cons ra
    rw [rpa_nil ra, rp_int rv]
    exact ⟨x, rfl, g _ F H (Same.refl _) sF (fun _ n _ => n) (Same.refl _) (.int _)⟩
  · exact g.elim
theorem waveD_go {x : Int} {Q : PyData → Prop} (q : Q (.int (wave x))) : Mi.SatP (f_wave [.int x]) Q := ⟨_, rfl, q⟩
/-! values -/
noncomputable def f_val (k : Bool) : Mi.MF := fun ds => match ds with
  | [d, .int t] => @dite _ (∃ D, EX 20 k d D) (Classical.propDecidable _) (fun h => .ok (.int ((Classical.choose h).val t))) (fun _ => .stuck)
  | _ => .stuck
theorem f_val_eq {k : Bool} {d : PyData} {t : Int} {D : Den} (h : EX 20 k d D) : f_val k [d, .int t] = .ok (.int (D.val t)) := by
  have ex : ∃ D, EX 20 k d D := ⟨D, h⟩
  show @dite _ (∃ D, EX 20 k d D) (Classical.propDecidable _) _ _ = _
  rw [dif_pos ex, (Classical.choose_spec ex).uniq h]
theorem val_spec {K : PySem.W.Frag} {mg : Str → Option Value} {k : Bool} {vs : List V} {H : Hp} {Q : VK} {E : XK} (h : Mi.spP K mg 2 (f_val k) vs H Q E) : spVal K 20 k vs H Q E := by
  obtain ⟨_, F, ds, sF, ra, g⟩ := h
  unfold f_val at g
  split at g
  · rename_i d t
    obtain ⟨v, w, rfl, rv, rw'⟩ := Mi.two_rp ra
    rw [rp_int rw']
    split at g
    · rename_i ex
      exact ⟨v, t, _, rfl, ((Classical.choose_spec ex).ex rv).sub (TupK.same sF), Nat.le_refl _, fun H' s => g (.int _) F H' (Same.refl _) (sF.trans s) (fun _ n _ => n) s (.int _)⟩
    · exact g.elim
  · exact g.elim
theorem valD_go {k : Bool} {d : PyData} {t : Int} {D : Den} {Q : PyData → Prop} (h : EX 20 k d D) (q : Q (.int (D.val t))) : Mi.SatP (f_val k [d, .int t]) Q := ⟨_, f_val_eq h, q⟩
/-! the scan -/
theorem Longest.uniq {n : Nat} {D : Den} (G : Good true n D) {limit room k j : Int} (h : Longest D.far limit room k) (g : Longest D.far limit room j) : k = j := by
  obtain ⟨a1, a2, a3, a4⟩ := h
  obtain ⟨b1, b2, b3, b4⟩ := g
  rcases Int.lt_trichotomy k j with l | l | l
  · have := G.fmono (k + 1) j (by omega) (by omega)
    omega
  · exact l
  · have := G.fmono (j + 1) k (by omega) (by omega)
    omega
theorem ScanTo.pre {n : Nat} {D : Den} (G : Good true n D) {e s : Int} {cs : List (Int × Int × Bool)} {t : Int} (h : ScanTo D e s cs t) : ∀ {ds : List (Int × Int × Bool)} {u : Int}, ScanTo D e s ds u → ds.length ≤ cs.length → (ds.length = cs.length ∧ ds = cs ∧ u = t) ∨ (ds.length < cs.length ∧ u ≤ e) := by
  induction h with
  | nil =>
    intro ds u g hl
    cases g with
    | nil => exact .inl ⟨rfl, rfl, rfl⟩
    | snoc g _ _ => simp at hl
  | @snoc cs t k h ht l ih =>
    intro ds u g hl
    rw [List.length_append, List.length_singleton] at hl
    by_cases c : ds.length ≤ cs.length
    · rcases ih g c with ⟨h1, h2, h3⟩ | ⟨h1, h2⟩
      · refine .inr ⟨by rw [List.length_append, List.length_singleton]; omega, by omega⟩
      · exact .inr ⟨by rw [List.length_append]; omega, h2⟩
    · cases g with
      | nil => simp at c
      | @snoc ds' u' j g' hu lg =>
        rw [List.length_append, List.length_singleton] at hl c
        rcases ih g' (by omega) with ⟨h1, h2, h3⟩ | ⟨h1, _⟩
        · subst h2 h3
          have := Longest.uniq G lg l
          subst this
          exact .inl ⟨rfl, rfl, rfl⟩
        · omega
theorem ScanTo.uniq {n : Nat} {D : Den} (G : Good true n D) {e s : Int} {cs ds : List (Int × Int × Bool)} {t u : Int} (h : ScanTo D e s cs t) (ht : e < t) (g : ScanTo D e s ds u) (hu : e < u) : cs = ds := by
  rcases Nat.le_total ds.length cs.length with l | l
  · rcases h.pre G g l with ⟨_, h2, _⟩ | ⟨_, h2⟩
    · exact h2.symm
    · omega
  · rcases g.pre G h l with ⟨_, h2, _⟩ | ⟨_, h2⟩
    · exact h2
    · omega
theorem Longest.ex {n : Nat} {D : Den} (G : Good true n D) {limit : Int} (h0 : 0 ≤ limit) : ∀ m : Nat, ∃ k, Longest D.far limit m k
  | 0 => ⟨0, by omega, by omega, by rw [G.f0]; exact h0, .inl rfl⟩
  | m + 1 => by
    obtain ⟨k, h1, h2, h3, h4⟩ := Longest.ex G h0 m
    rcases Int.lt_or_le limit (D.far (k + 1)) with l | l
    · exact ⟨k, h1, by omega, h3, .inr l⟩
    · rcases h4 with h4 | h4
      · exact ⟨k + 1, by omega, by omega, l, .inl (by omega)⟩
      · omega
theorem lim_nn (v : Int) : 0 ≤ limI v := by unfold limI; split <;> omega
theorem scan_ex {n : Nat} {D : Den} (G : Good true n D) {e s : Int} : ∀ (m : Nat) {cs t}, ScanTo D e s cs t → (e + 1 - t).toNat ≤ m → ∃ cs u, ScanTo D e s cs u ∧ e < u
  | 0, cs, t, h, hm => ⟨cs, t, h, by omega⟩
  | m + 1, cs, t, h, hm => by
    rcases Int.lt_or_le e t with l | l
    · exact ⟨cs, t, h, l⟩
    · obtain ⟨k, lg⟩ := Longest.ex G (lim_nn (D.val t)) (e - t).toNat
      rw [show (((e - t).toNat : Nat) : Int) = e - t by omega] at lg
      have := lg.1
      exact scan_ex G m (h.snoc l lg) (by omega)
abbrev Cell := Int × Int × Bool
def cellD (c : Cell) : PyData := .tuple [.int c.1, .int c.2.1, .bool c.2.2]
def ScanOk (d : PyData) (s e : Int) (D : Den) : Prop := EX 20 true d D ∧ D.most ≤ Big ∧ D.size ≤ 1000 ∧ s ≤ e + 1 ∧ e - s ≤ 900
def IsScan (D : Den) (s e : Int) (cs : List Cell) : Prop := ∃ t, ScanTo D e s cs t ∧ e < t
noncomputable def f_scan : Mi.MF := fun ds => match ds with
  | [d, .int s, .int e] => @dite _ (∃ D cs, ScanOk d s e D ∧ IsScan D s e cs) (Classical.propDecidable _) (fun h => .ok (.list ((Classical.choose (Classical.choose_spec h)).map cellD))) (fun _ => .stuck)
  | _ => .stuck
theorem rows_rp {K : PySem.W.Frag} {F : Hp} : ∀ {ps : List Addr} {cs : List Cell}, Rows F ps (cs.map cellV) → Mi.RpA K F (ps.map V.ref) (cs.map cellD)
  | [], [], _ => .nil
  | [], _ :: _, h => h.elim
  | _ :: _, [], h => h.elim
  | p :: ps, c :: cs, h => .cons (.tup (SqT.of h.1) (.cons (.int _) (.cons (.int _) (.cons (.bl _) .nil)))) (rows_rp h.2)
theorem rows_in {H H' : Hp} : ∀ {ps : List Addr} {rs : List (List V)}, Rows H ps rs → (∀ p ∈ ps, H' p = H p) → Rows H' ps rs
  | [], [], _, _ => trivial
  | [], _ :: _, h, _ => h.elim
  | _ :: _, [], h, _ => h.elim
  | p :: ps, r :: rs, h, e => ⟨by rw [e p (List.mem_cons_self ..)]; exact h.1, rows_in h.2 fun q hq => e q (List.mem_cons_of_mem _ hq)⟩
theorem scan_spec {K : PySem.W.Frag} {mg : Str → Option Value} {vs : List V} {H : Hp} {Q : VK} {E : XK} (h : Mi.spP K mg 3 f_scan vs H Q E) : spScan K 20 vs H Q E := by
  obtain ⟨hl, F, ds, sF, ra, g⟩ := h
  unfold f_scan at g
  split at g
  · rename_i d s e
    obtain ⟨v, _, rfl, rv, ra⟩ := rpa_cons ra
    obtain ⟨w, _, rfl, rw1, ra⟩ := rpa_cons ra
    obtain ⟨x, _, rfl, rx, ra⟩ := rpa_cons ra
    rw [rpa_nil ra, rp_int rw1, rp_int rx]
    have fin : ∀ D, ScanOk d s e D → (∀ cs, IsScan D s e cs → Mi.Good (.ok (.list (cs.map cellD))) (fun d => ∀ v F' H', Same F F' → Same F' H' → (∀ b, F b = none → H b ≠ none → F' b = none) → Same H H' → Mi.Rp K F' v d → Q v H') (fun _ _ _ => False)) → spScan K 20 [v, .int s, .int e] H Q E := by
      intro D ok q
      obtain ⟨o1, o2, o3, o4, o5⟩ := ok
      refine ⟨v, s, e, D, rfl, (o1.ex rv).sub (TupK.same sF), ⟨Nat.le_refl _, o2⟩, o3, o4, o5, fun H' r ps cs t hr rows sc lt sm nr nps => ?_⟩
      have q := q cs ⟨t, sc, lt⟩
      let F' : Hp := fun b => if F b = none then (if H b = none then H' b else none) else F b
      have fF : ∀ b, H b = none → F b = none := fun b z => by
        cases y : F b with
        | none => rfl
        | some o => rw [sF _ _ y] at z; cases z
      have new : ∀ b, H b = none → F' b = H' b := fun b z => by show (if F b = none then (if H b = none then H' b else none) else F b) = _; rw [if_pos (fF b z), if_pos z]
      refine q (.ref r) F' H' (fun b o z => ?_) (fun b o z => ?_) (fun b z y => ?_) sm (.lst (by rw [new r nr]; exact hr) (rows_rp (rows_in rows fun p hp => new p (nps p hp))))
      · show (if F b = none then _ else F b) = _
        rw [if_neg (by rw [z]; exact fun y => by cases y)]
        exact z
      · have z : (if F b = none then (if H b = none then H' b else none) else F b) = some o := z
        split at z
        · split at z
          · exact z
          · cases z
        · exact sm _ _ (sF _ _ z)
      · show (if F b = none then (if H b = none then H' b else none) else F b) = none
        rw [if_pos z, if_neg y]
    split at g
    · rename_i ex
      obtain ⟨ok, sc⟩ := Classical.choose_spec (Classical.choose_spec ex)
      refine fin _ ok fun cs hcs => ?_
      obtain ⟨t, h1, h2⟩ := sc
      obtain ⟨u, h3, h4⟩ := hcs
      rw [ScanTo.uniq ok.1.good h3 h4 h1 h2]
      exact g
    · exact g.elim
  · exact g.elim
theorem scanD_go {d : PyData} {s e : Int} {D : Den} {Q : PyData → Prop} (h : ScanOk d s e D) (q : ∀ cs, IsScan D s e cs → Q (.list (cs.map cellD))) : Mi.SatP (f_scan [d, .int s, .int e]) Q := by
  obtain ⟨cs, u, h1, h2⟩ := scan_ex h.1.good (e + 1 - s).toNat (.nil (D := D) (e := e) (s := s)) (Nat.le_refl _)
  have ex : ∃ D cs, ScanOk d s e D ∧ IsScan D s e cs := ⟨D, cs, h, u, h1, h2⟩
  refine ⟨.list ((Classical.choose (Classical.choose_spec ex)).map cellD), ?_, q _ ?_⟩
  · show @dite _ (∃ D cs, ScanOk d s e D ∧ IsScan D s e cs) (Classical.propDecidable _) _ _ = _
    rw [dif_pos ex]
  · have key : ∀ D' L, ScanOk d s e D' ∧ IsScan D' s e L → IsScan D s e L := fun D' L a => by
      have := a.1.1.uniq h.1
      subst this
      exact a.2
    exact key _ _ (Classical.choose_spec (Classical.choose_spec ex))

section
variable {P : Program} {w : World} {K : PySem.W.Frag} {mg : Str → Option Value} {base : Heap}
theorem okb__law_value (T : Txt K mg) : ∃ (f : Addr) (fd : FuncData), FnOk P w K mg base CX0 23 f fd ["q", "t"] (Mi.spP K mg 2 (f_val true)) ∧ mg "_law_value" = some (.ref f) ∧ PySem.W.keepIn K (.ref f) = true ∧ L2.Binds K fd ["q", "t"] [] := by
  obtain ⟨f, fd, G, g, kp, b⟩ := (ok__law_value (P := P) (w := w) (base := base) T 20).1
  exact ⟨f, fd, G.imp fun vs H Q E h => val_spec h, g, kp, b⟩
theorem okb__law_angle_at (T : Txt K mg) : ∃ (f : Addr) (fd : FuncData), FnOk P w K mg base CX0 23 f fd ["a", "t"] (Mi.spP K mg 2 (f_val false)) ∧ mg "_law_angle_at" = some (.ref f) ∧ PySem.W.keepIn K (.ref f) = true ∧ L2.Binds K fd ["a", "t"] [] := by
  obtain ⟨f, fd, G, g, kp, b⟩ := (ok__law_value (P := P) (w := w) (base := base) T 20).2
  exact ⟨f, fd, G.imp fun vs H Q E h => val_spec h, g, kp, b⟩
theorem okb__scan (T : Txt K mg) : ∃ (f : Addr) (fd : FuncData), FnOk P w K mg base CX0 90 f fd ["q", "start", "end"] (Mi.spP K mg 3 f_scan) ∧ mg "_scan" = some (.ref f) ∧ PySem.W.keepIn K (.ref f) = true ∧ L2.Binds K fd ["q", "start", "end"] [] := by
  obtain ⟨M, A⟩ := ok_reaches (P := P) (w := w) (base := base) T 20
  obtain ⟨f, fd, G, g, kp, b⟩ := ok_scan (P := P) (w := w) (base := base) T (ok_reach T 20 _ M)
  exact ⟨f, fd, (G.imp fun vs H Q E h => scan_spec h).mono (by decide), g, kp, b⟩
end

end K11

set_option Elab.async false
set_option linter.all false
set_option maxRecDepth 100000
namespace K11
open PySem PySem.Spec PyProof.Rows L2 Mi
noncomputable section

def q_finer (R_finer : MF) (R__finer_angle : MF) : MS :=
  (mSeq (mSet 2 (mOp fIxT (mVar 0) (mC (.int (0)))))
  (mSeq (mIfS (mB (mOp fEq (mVar 2) (mC (.str "number")))) (mRet (mVar 0)) mNext)
  (mSeq (mIfS (mB (mOp fEq (mVar 2) (mC (.str "wave")))) (mRet (mTup [(mVar 2), (mCall R__finer_angle [(mOp fIxT (mVar 0) (mC (.int (1)))), (mVar 1)])])) mNext)
  (mSeq (mIfS (mB (mOp fEq (mVar 2) (mC (.str "sum")))) (mRet (mTupS [.one (mVar 2), .star (mLc (itT (mSl fSlT (mVar 0) (mPart (mC (.int (1)))) mNoPart)) (gN 3) mYes (mCall R_finer [(mVar 3), (mVar 1)]) [3])])) mNext)
  (mSeq (mIfS (mB (mOp fEq (mVar 2) (mC (.str "share")))) (mRet (mTup [(mVar 2), (mCall R_finer [(mOp fIxT (mVar 0) (mC (.int (1)))), (mVar 1)]), (mOp fIxT (mVar 0) (mC (.int (2)))), (mOp fIxT (mVar 0) (mC (.int (3))))])) mNext)
  (mSeq (mIfS (mB (mOp fEq (mVar 2) (mC (.str "product")))) (mRet (mTup [(mVar 2), (mCall R_finer [(mOp fIxT (mVar 0) (mC (.int (1)))), (mVar 1)]), (mCall R_finer [(mOp fIxT (mVar 0) (mC (.int (2)))), (mVar 1)]), (mOp fIxT (mVar 0) (mC (.int (3))))])) mNext)
  (mRet (mTup [(mVar 2), (mCall R_finer [(mOp fIxT (mVar 0) (mC (.int (1)))), (mVar 1)]), (mOp fMul (mOp fIxT (mVar 0) (mC (.int (2)))) (mVar 1))]))))))))
def q__finer_angle (R_finer : MF) (R__finer_angle : MF) : MS :=
  (mSeq (mSet 2 (mOp fIxT (mVar 0) (mC (.int (0)))))
  (mSeq (mIfS (mB (mOp fEq (mVar 2) (mC (.str "turning")))) (mRet (mTup [(mVar 2), (mOp fIxT (mVar 0) (mC (.int (1)))), (mOp fIxT (mVar 0) (mC (.int (2)))), (mOp fMul (mOp fIxT (mVar 0) (mC (.int (3)))) (mVar 1))])) mNext)
  (mSeq (mIfS (mB (mOp fEq (mVar 2) (mC (.str "moved")))) (mRet (mTup [(mVar 2), (mCall R__finer_angle [(mOp fIxT (mVar 0) (mC (.int (1)))), (mVar 1)]), (mCall R_finer [(mOp fIxT (mVar 0) (mC (.int (2)))), (mVar 1)])])) mNext)
  (mRet (mTup [(mVar 2), (mCall R__finer_angle [(mOp fIxT (mVar 0) (mC (.int (1)))), (mVar 1)]), (mCall R__finer_angle [(mOp fIxT (mVar 0) (mC (.int (2)))), (mVar 1)])])))))
def rec_finer : Nat → MF × MF
  | 0 => ((fun _ => .stuck), (fun _ => .stuck))
  | n + 1 => (runP 4 (q_finer (rec_finer n).1 (rec_finer n).2), runP 3 (q__finer_angle (rec_finer n).1 (rec_finer n).2))
def r_finer (n : Nat) : MF := (rec_finer n).1
def r__finer_angle (n : Nat) : MF := (rec_finer n).2
theorem r_finer_zero : r_finer 0 = (fun _ => .stuck) := rfl
theorem r_finer_succ (n : Nat) : r_finer (n + 1) = runP 4 (q_finer (r_finer n) (r__finer_angle n)) := rfl
theorem r__finer_angle_zero : r__finer_angle 0 = (fun _ => .stuck) := rfl
theorem r__finer_angle_succ (n : Nat) : r__finer_angle (n + 1) = runP 3 (q__finer_angle (r_finer n) (r__finer_angle n)) := rfl


def m__law_wave_part : MS :=
  (mSeq (mSet 1 (mOp fMul (mCallI (runI 2 m__law_pick) 0 [(mLst [(mUn fNeg (mC (.int (1)))), (mC (.int (1)))])]) (mOp fAdd (mC (.int (1))) (mCallI (runI 4 m__law_draw) 0 [(mCallI (runI 2 m__law_pick) 0 [(mLst [(mC (.int (300))), (mC (.int (9000))), (mC (.int (200000)))])])]))))
  (mRet (mTup [(mC (.str "wave")), (mTup [(mC (.str "turning")), (mCallI (runI 4 m__law_draw) 0 [(mC (.int (1296000)))]), (mVar 1), (mCallI (runI 2 m__law_pick) 0 [(mLst [(mC (.int (1))), (mC (.int (1))), (mC (.int (7))), (mC (.int (60)))])])])])))
def m__law_series : MS :=
  (mSeq (mSetO 1 (mLst []))
  (mSeq (mFor (itR1 [(mOp fAdd (mC (.int (1))) (mCallI (runI 4 m__law_draw) 0 [(mC (.int (3)))]))]) (gN 2) (mSeq (mSet 3 (mCallI (runI 2 m__law_wave_part) 0 []))
  (mSeq (mSet 4 (mCallI (runI 4 m__law_draw) 0 [(mC (.int (4)))]))
  (mSeq (mIfS (mB (mOp fEq (mVar 4) (mC (.int (0))))) (mSet 3 (mTup [(mC (.str "product")), (mVar 3), (mCallI (runI 2 m__law_wave_part) 0 []), (mC (.int (1000000)))])) mNext)
  (mSeq (mIfS (mB (mOp fEq (mVar 4) (mC (.int (1))))) (mSet 3 (mTup [(mC (.str "share")), (mVar 3), (mOp fSub (mCallI (runI 4 m__law_draw) 0 [(mC (.int (4001)))]) (mC (.int (2000)))), (mC (.int (1000)))])) mNext)
  (mSeq (mIfS (mB (mOp fEq (mVar 4) (mC (.int (2))))) (mSet 3 (mTup [(mC (.str "wave")), (mTup [(mC (.str "moved")), (mOp fIxT (mVar 3) (mC (.int (1)))), (mTup [(mC (.str "share")), (mCallI (runI 2 m__law_wave_part) 0 []), (mCallI (runI 4 m__law_draw) 0 [(mC (.int (40000)))]), (mC (.int (1000000)))])])])) mNext)
  (mDrop (mApp 1 (mVar 3)))))))))
  (mSeq (mDrop (mApp 1 (mTup [(mC (.str "number")), (mCallI (runI 2 m__law_pick) 0 [(mLst [(mC (.int (0))), (mC (.int (0))), (mC (.int (1))), (mUn fNeg (mC (.int (1)))), (mOp fSub (mCallI (runI 4 m__law_draw) 0 [(mC (.int (2000001)))]) (mC (.int (1000000))))])])])))
  (mRet (mOp fCatT (mTup [(mC (.str "sum"))]) (mCB cbTup [(mVar 1)]))))))
def m__law_number : MS :=
  (mRet (mOp fMul (mCallI (runI 2 m__law_pick) 0 [(mLst [(mUn fNeg (mC (.int (1)))), (mC (.int (1)))])]) (mCallI (runI 4 m__law_draw) 0 [(mCallI (runI 2 m__law_pick) 0 [(mLst [(mC (.int (3))), (mC (.int (100))), (mOp fPow (mC (.int (10))) (mC (.int (6)))), (mOp fMul (mC (.int (2))) (mOp fPow (mC (.int (10))) (mC (.int (6))))), (mOp fAdd (mOp fPow (mC (.int (10))) (mC (.int (12)))) (mC (.int (1))))])])])))
def m__law_divisor : MS :=
  (mRet (mOp fAdd (mC (.int (1))) (mCallI (runI 4 m__law_draw) 0 [(mCallI (runI 2 m__law_pick) 0 [(mLst [(mC (.int (3))), (mC (.int (1000))), (mOp fPow (mC (.int (10))) (mC (.int (6)))), (mOp fPow (mC (.int (10))) (mC (.int (12))))])])])))
def q__law_angle (R__law_angle : MFi) (R__law_quantity : MFi) : MS :=
  (mSeq (mSet 2 (mIf (mB (mOp fGt (mVar 1) (mC (.int (0))))) (mCallI (runI 4 m__law_draw) 0 [(mC (.int (4)))]) (mC (.int (0)))))
  (mSeq (mIfS (mB (mOp fLt (mVar 2) (mC (.int (2))))) (mSeq (mSet 3 (mOp fMul (mCallI (runI 2 m__law_pick) 0 [(mLst [(mUn fNeg (mC (.int (1)))), (mC (.int (1)))])]) (mCallI (runI 4 m__law_draw) 0 [(mCallI (runI 2 m__law_pick) 0 [(mLst [(mC (.int (9))), (mC (.int (1000))), (mC (.int (400000))), (mOp fPow (mC (.int (10))) (mC (.int (12))))])])])))
  (mRet (mTup [(mC (.str "turning")), (mCallI (runI 1 m__law_number) 0 []), (mVar 3), (mCallI (runI 2 m__law_pick) 0 [(mLst [(mC (.int (1))), (mC (.int (1))), (mC (.int (7))), (mC (.int (1000))), (mOp fPow (mC (.int (10))) (mC (.int (9))))])])]))) mNext)
  (mSeq (mIfS (mB (mOp fEq (mVar 2) (mC (.int (2))))) (mRet (mTup [(mC (.str "moved")), (mCallI R__law_angle 0 [(mOp fSub (mVar 1) (mC (.int (1))))]), (mCallI R__law_quantity 0 [(mOp fSub (mVar 1) (mC (.int (1))))])])) mNext)
  (mRet (mTup [(mC (.str "minus")), (mCallI R__law_angle 0 [(mOp fSub (mVar 1) (mC (.int (1))))]), (mCallI R__law_angle 0 [(mOp fSub (mVar 1) (mC (.int (1))))])])))))
def q__law_quantity (R__law_angle : MFi) (R__law_quantity : MFi) : MS :=
  (mSeq (mSet 2 (mIf (mB (mOp fGt (mVar 1) (mC (.int (0))))) (mCallI (runI 4 m__law_draw) 0 [(mC (.int (8)))]) (mOp fMul (mCallI (runI 4 m__law_draw) 0 [(mC (.int (2)))]) (mC (.int (7))))))
  (mSeq (mIfS (mB (mOp fEq (mVar 2) (mC (.int (0))))) (mRet (mTup [(mC (.str "number")), (mCallI (runI 1 m__law_number) 0 [])])) mNext)
  (mSeq (mIfS (mB (mOp (fIn false) (mVar 2) (mLst [(mC (.int (1))), (mC (.int (7)))]))) (mRet (mTup [(mC (.str "wave")), (mCallI R__law_angle 0 [(mCB cbMax2 [(mC (.int (0))), (mOp fSub (mVar 1) (mC (.int (1))))])])])) mNext)
  (mSeq (mIfS (mB (mOp (fIn false) (mVar 2) (mLst [(mC (.int (2))), (mC (.int (3)))]))) (mRet (mOp fCatT (mTup [(mC (.str "sum"))]) (mCB cbTup [(mLc (itR1 [(mOp fAdd (mC (.int (1))) (mCallI (runI 4 m__law_draw) 0 [(mC (.int (3)))]))]) (gN 3) mYes (mCallI R__law_quantity 0 [(mOp fSub (mVar 1) (mC (.int (1))))]) [3])]))) mNext)
  (mSeq (mIfS (mB (mOp fEq (mVar 2) (mC (.int (4))))) (mRet (mTup [(mC (.str "share")), (mCallI R__law_quantity 0 [(mOp fSub (mVar 1) (mC (.int (1))))]), (mCallI (runI 1 m__law_number) 0 []), (mCallI (runI 1 m__law_divisor) 0 [])])) mNext)
  (mSeq (mIfS (mB (mOp fEq (mVar 2) (mC (.int (5))))) (mRet (mTup [(mC (.str "product")), (mCallI R__law_quantity 0 [(mOp fSub (mVar 1) (mC (.int (1))))]), (mCallI R__law_quantity 0 [(mOp fSub (mVar 1) (mC (.int (1))))]), (mCallI (runI 1 m__law_divisor) 0 [])])) mNext)
  (mRet (mTup [(mC (.str "later")), (mCallI R__law_quantity 0 [(mOp fSub (mVar 1) (mC (.int (1))))]), (mOp fSub (mCallI (runI 4 m__law_draw) 0 [(mC (.int (2001)))]) (mC (.int (1000))))]))))))))
def rec__law_angle : Nat → MFi × MFi
  | 0 => ((fun _ _ => .stuck), (fun _ _ => .stuck))
  | n + 1 => (runI 4 (q__law_angle (rec__law_angle n).1 (rec__law_angle n).2), runI 4 (q__law_quantity (rec__law_angle n).1 (rec__law_angle n).2))
def r__law_angle (n : Nat) : MFi := (rec__law_angle n).1
def r__law_quantity (n : Nat) : MFi := (rec__law_angle n).2
theorem r__law_angle_zero : r__law_angle 0 = (fun _ _ => .stuck) := rfl
theorem r__law_angle_succ (n : Nat) : r__law_angle (n + 1) = runI 4 (q__law_angle (r__law_angle n) (r__law_quantity n)) := rfl
theorem r__law_quantity_zero : r__law_quantity 0 = (fun _ _ => .stuck) := rfl
theorem r__law_quantity_succ (n : Nat) : r__law_quantity (n + 1) = runI 4 (q__law_quantity (r__law_angle n) (r__law_quantity n)) := rfl
def q__law_finer (R__law_finer : MF) : MS :=
  (mSeq (mIfS (mB (mOp fEq (mOp fIxT (mVar 0) (mC (.int (0)))) (mC (.str "turning")))) (mRet (mOp fCatT (mSl fSlT (mVar 0) mNoPart (mPart (mC (.int (3))))) (mTup [(mOp fMul (mOp fIxT (mVar 0) (mC (.int (3)))) (mVar 1))]))) mNext)
  (mSeq (mIfS (mB (mOp fEq (mOp fIxT (mVar 0) (mC (.int (0)))) (mC (.str "later")))) (mRet (mTup [(mC (.str "later")), (mCall R__law_finer [(mOp fIxT (mVar 0) (mC (.int (1)))), (mVar 1)]), (mOp fMul (mOp fIxT (mVar 0) (mC (.int (2)))) (mVar 1))])) mNext)
  (mRet (mCB cbTup [(mLc (itT (mVar 0)) (gN 2) mYes (mIf (mB (mIsi "tuple" (mVar 2))) (mCall R__law_finer [(mVar 2), (mVar 1)]) (mVar 2)) [2])]))))
def rec__law_finer : Nat → MF
  | 0 => (fun _ => .stuck)
  | n + 1 => runP 3 (q__law_finer (rec__law_finer n))
def r__law_finer (n : Nat) : MF := (rec__law_finer n)
theorem r__law_finer_zero : r__law_finer 0 = (fun _ => .stuck) := rfl
theorem r__law_finer_succ (n : Nat) : r__law_finer (n + 1) = runP 3 (q__law_finer (r__law_finer n)) := rfl
def m__law_changes : MS :=
  (mSeq (mSetO 3 (mLst []))
  (mSeq (mSet 4 (mOp fGe (mCall (f_val true) [(mVar 0), (mVar 1)]) (mC (.int (0)))))
  (mSeq (mFor (itR2 [(mOp fAdd (mVar 1) (mC (.int (1)))), (mOp fAdd (mVar 2) (mC (.int (1))))]) (gN 5) (mSeq (mSet 6 (mOp fGe (mCall (f_val true) [(mVar 0), (mVar 5)]) (mC (.int (0)))))
  (mSeq (mIfS (mB (mOp fNe (mVar 6) (mVar 4))) (mDrop (mApp 3 (mTup [(mVar 5), (mIf (mB (mVar 6)) (mC (.str "up")) (mC (.str "down")))]))) mNext)
  (mSet 4 (mVar 6)))))
  (mRet (mVar 3)))))
def m_changes : MS :=
  (mSeq (mSetO 3 (mLst []))
  (mSeq (mSet 4 (mCall f_scan [(mVar 0), (mVar 1), (mVar 2)]))
  (mSeq (mFor (itZ [(mVar 4), (mSl fSlL (mVar 4) (mPart (mC (.int (1)))) mNoPart)]) (gT 2 (gConss (gN 5) (gConss (gN 6) gNils))) (mIfS (mB (mOp fNe (mOp fIxT (mVar 6) (mC (.int (2)))) (mOp fIxT (mVar 5) (mC (.int (2)))))) (mDrop (mApp 3 (mTup [(mOp fIxT (mVar 6) (mC (.int (0)))), (mIf (mB (mOp fIxT (mVar 6) (mC (.int (2))))) (mC (.str "up")) (mC (.str "down")))]))) mNext))
  (mRet (mVar 3)))))
def m_fine_moments : MS :=
  (mRet (mLc (itL (mCall (runP 7 m_changes) [(mCall (r_finer 12) [(mVar 0), (mVar 2)]), (mOp fMul (mVar 2) (mOp fSub (mVar 1) (mC (.int (1))))), (mOp fMul (mVar 2) (mVar 1))])) (gT 2 (gConss (gN 3) (gConss (gN 4) gNils))) mYes (mVar 3) [3, 4]))
def m_law : MS :=
  (mSeq (mSetO 1 (mCall (runP 2 m__law_start) [(mVar 0)]))
  (mSeq (mSet 2 (mIf (mB (mOp fGt (mCallI (runI 4 m__law_draw) 1 [(mC (.int (3)))]) (mC (.int (0))))) (mCallI (runI 5 m__law_series) 1 []) (mCallI (r__law_quantity 12) 1 [(mC (.int (3)))])))
  (mSeq (mSet 3 (mOp fAdd (mC (.int (1))) (mCallI (runI 4 m__law_draw) 1 [(mCallI (runI 2 m__law_pick) 1 [(mLst [(mC (.int (2))), (mC (.int (7))), (mC (.int (40)))])])])))
  (mSeq (mSet 4 (mCall (r_finer 12) [(mVar 2), (mVar 3)]))
  (mSeq (mIfS (mB (mOp fNeD (mVar 4) (mCall (r__law_finer 12) [(mVar 2), (mVar 3)]))) (mRet (mC (.bool false))) mNext)
  (mSeq (mFor (itR1 [(mC (.int (3)))]) (gN 5) (mSeq (mSet 6 (mOp fSub (mCallI (runI 4 m__law_draw) 1 [(mC (.int (20001)))]) (mC (.int (10000)))))
  (mIfS (mB (mOp fNe (mCall (f_val true) [(mVar 4), (mOp fMul (mVar 3) (mVar 6))]) (mCall (f_val true) [(mVar 2), (mVar 6)]))) (mRet (mC (.bool false))) mNext)))
  (mSeq (mSet 7 (mOp fSub (mCallI (runI 4 m__law_draw) 1 [(mC (.int (2001)))]) (mC (.int (1000)))))
  (mSeq (mFor (itL (mSl fSlL (mCall (runP 7 m__law_changes) [(mVar 2), (mVar 7), (mOp fAdd (mVar 7) (mC (.int (60))))]) mNoPart (mPart (mC (.int (2)))))) (gT 2 (gConss (gN 6) (gConss (gN 8) gNils))) (mSeq (mSet 9 (mCall (runP 5 m_fine_moments) [(mVar 2), (mVar 6), (mVar 3)]))
  (mSeq (mSet 10 (mLc (itL (mCall (runP 7 m__law_changes) [(mVar 4), (mOp fMul (mVar 3) (mOp fSub (mVar 6) (mC (.int (1))))), (mOp fMul (mVar 3) (mVar 6))])) (gN 11) mYes (mOp fIxT (mVar 11) (mC (.int (0)))) [11]))
  (mIfS (mOrT (mNotT (mB (mIsi "list" (mVar 9)))) (mOrT (mB (mOp fNeD (mVar 9) (mVar 10))) (mB (mOp fNe (mOp fMod (mCB cbInt [(mCB cbLen [(mVar 9)])]) (mC (.int (2)))) (mC (.int (1))))))) (mRet (mC (.bool false))) mNext))))
  (mRet (mC (.bool true)))))))))))
end

end K11

set_option Elab.async false
set_option linter.all false
set_option maxRecDepth 100000
namespace K11
open PySem PySem.Spec PyProof.Rows L2 Mi
section
variable {P : Program} {w : World} {K : PySem.W.Frag} {mg : Str → Option Value} {base : Heap}

theorem ok__law_start (T : Txt K mg) : ∃ (f : Addr) (fd : FuncData), FnOk P w K mg base CX0 1 f fd ["script"] (spF K 1 (runP 2 m__law_start)) ∧ mg "_law_start" = some (.ref f) ∧ PySem.W.keepIn K (.ref f) = true ∧ L2.Binds K fd ["script"] [] := by
  obtain ⟨f, fd, F, g, bi⟩ := T.d__law_start
  refine ⟨f, fd, ?_, g, F.kp, bi⟩
  refine F.ok sc__law_start (fun vs H Q E h => h.1) (fun cdv A outer s H vs Q E hr h => ?_)
  exact fin_F (mg := mg) (m := (mDict [(.inr "cells", (mLc (itL (mVar 0)) (gN 1) mYes (mCB cbAbs [(mCB cbInt [(mVar 1)])]) [1])), (.inr "at", (mC (.int (0)))), (.inr "left", (mC (.int (0)))), (.inr "mix", (mOp fAdd (mC (.int (7))) (mCB cbLen [(mVar 0)])))])) (pss_one (ps_ret (pe_disp (pps_cons pe_str (pe_lc (own := [("cell", 1)]) (g := gName 1) (tt := tYes) (by rfl) sc__law_start.nd (pi_list (pv 0)) (blkOk_by (own := [("cell", 1)]) (N := ["script", "cell"]) (sc := defScope s__law_start) (by decide +kernel)) (fun _ _ _ _ _ => (pg_name (i := 1) sc__law_start.nd rfl (by first | exact Or.inl rfl | exact Or.inr rfl))) (fun _ _ _ _ _ => pts_nil) (fun _ _ _ _ _ => (pe_callB call_abs (by rfl) T.m_abs (by decide +kernel) (pa_cons (pe_callTy call_int1 (by rfl) T.m_int (by decide +kernel) (pa_cons (pv 1) pa_nil)) pa_nil)))) (pps_cons pe_str pe_int (pps_cons pe_str pe_int (pps_cons pe_str (pe_op op_add pe_int (pe_callB call_len_seq (by rfl) T.m_len (by decide +kernel) (pa_cons (pv 0) pa_nil))) pps_nil)))) (by rfl) (by rfl) (fun z => by cases z) (by decide)))) (shf_disp (shp_cons (k := Sum.inr "cells") (ShF.e (shf_lc (shi_list (sh_var 0)) (shg_name 1) (by decide) sht_yes (sh_cb cs_abs (sha_cons (sh_cb cs_int (sha_cons (sh_var 1) sha_nil)) sha_nil)))) (shp_cons (k := Sum.inr "at") (sh_int (0)) (shp_cons (k := Sum.inr "left") (sh_int (0)) (shp_cons (k := Sum.inr "mix") (sh_op Mi.s_add (sh_int (7)) (sh_cb cs_len (sha_cons (sh_var 0) sha_nil))) shp_nil)))) (Nat.le_of_ble_eq_true rfl)) h (by decide)
theorem okrec_finer (T : Txt K mg) : ∀ n : Nat, (∃ (f : Addr) (fd : FuncData), FnOk P w K mg base CX0 (n + 1) f fd ["q", "m"] (spP K mg 2 (r_finer n)) ∧ mg "finer" = some (.ref f) ∧ PySem.W.keepIn K (.ref f) = true ∧ L2.Binds K fd ["q", "m"] []) ∧ (∃ (f : Addr) (fd : FuncData), FnOk P w K mg base CX0 (n + 1) f fd ["a", "m"] (spP K mg 2 (r__finer_angle n)) ∧ mg "_finer_angle" = some (.ref f) ∧ PySem.W.keepIn K (.ref f) = true ∧ L2.Binds K fd ["a", "m"] [])
  | 0 => ⟨by
    obtain ⟨f, fd, F, g, bi⟩ := T.d_finer
    exact ⟨f, fd, Rd.never.imp (fun vs H Q E h => absurd_stP h), g, F.kp, bi⟩, by
    obtain ⟨f, fd, F, g, bi⟩ := T.d__finer_angle
    exact ⟨f, fd, Rd.never.imp (fun vs H Q E h => absurd_stP h), g, F.kp, bi⟩⟩
  | n + 1 => by
    obtain ⟨⟨f_finer, fd_finer, G_finer, g_finer, kp_finer, b_finer⟩, ⟨f__finer_angle, fd__finer_angle, G__finer_angle, g__finer_angle, kp__finer_angle, b__finer_angle⟩⟩ := okrec_finer T n
    refine ⟨?_, ?_⟩
    · obtain ⟨f, fd, F, g, bi⟩ := T.d_finer
      refine ⟨f, fd, ?_, g, F.kp, bi⟩
      rw [r_finer_succ]
      refine F.ok sc_finer (fun vs H Q E h => h.1) (fun cdv A outer s H vs Q E hr h => ?_)
      exact fin_P (mg := mg) (f := q_finer (r_finer n) (r__finer_angle n)) (pss_cons (ps_set (i := 2) sc_finer.nd rfl (by first | exact Or.inl rfl | exact Or.inr rfl) (pe_ix ix_tup (pv 0) pe_int (fun _ _ => rfl)))
      (pss_cons (ps_if (pt_cmpR op_eq (pv 2) pe_str (nomark _)) (pss_one (ps_ret (pv 0))) pss_nil)
      (pss_cons (ps_if (pt_cmpR op_eq (pv 2) pe_str (nomark _)) (pss_one (ps_ret (pe_tup (pa_cons (pv 2) (pa_cons (pe_call G__finer_angle (hr.mono (by omega)) (by rfl) g__finer_angle kp__finer_angle b__finer_angle .nil pass0 (pa_cons (pe_ix ix_tup (pv 0) pe_int (fun _ _ => rfl)) (pa_cons (pv 1) pa_nil))) pa_nil))))) pss_nil)
      (pss_cons (ps_if (pt_cmpR op_eq (pv 2) pe_str (nomark _)) (pss_one (ps_ret (pe_tup (pa_cons (pv 2) (StX.pa_star (pe_lc (own := [("v", 3)]) (g := gName 3) (tt := tYes) (by rfl) sc_finer.nd (pi_tup (pe_slice sl_tupA (pv 0) (po_some pe_int) po_none)) (blkOk_by (own := [("v", 3)]) (N := ["q", "m", "word", "v"]) (sc := defScope s_finer) (by decide +kernel)) (fun _ _ _ _ _ => (pg_name (i := 3) sc_finer.nd rfl (by first | exact Or.inl rfl | exact Or.inr rfl))) (fun _ _ _ _ _ => pts_nil) (fun _ _ _ _ _ => (pe_call G_finer (hr.mono (by omega)) (by rfl) g_finer kp_finer b_finer .nil pass0 (pa_cons (pv 3) (pa_cons (pv 1) pa_nil))))) pa_nil))))) pss_nil)
      (pss_cons (ps_if (pt_cmpR op_eq (pv 2) pe_str (nomark _)) (pss_one (ps_ret (pe_tup (pa_cons (pv 2) (pa_cons (pe_call G_finer (hr.mono (by omega)) (by rfl) g_finer kp_finer b_finer .nil pass0 (pa_cons (pe_ix ix_tup (pv 0) pe_int (fun _ _ => rfl)) (pa_cons (pv 1) pa_nil))) (pa_cons (pe_ix ix_tup (pv 0) pe_int (fun _ _ => rfl)) (pa_cons (pe_ix ix_tup (pv 0) pe_int (fun _ _ => rfl)) pa_nil))))))) pss_nil)
      (pss_cons (ps_if (pt_cmpR op_eq (pv 2) pe_str (nomark _)) (pss_one (ps_ret (pe_tup (pa_cons (pv 2) (pa_cons (pe_call G_finer (hr.mono (by omega)) (by rfl) g_finer kp_finer b_finer .nil pass0 (pa_cons (pe_ix ix_tup (pv 0) pe_int (fun _ _ => rfl)) (pa_cons (pv 1) pa_nil))) (pa_cons (pe_call G_finer (hr.mono (by omega)) (by rfl) g_finer kp_finer b_finer .nil pass0 (pa_cons (pe_ix ix_tup (pv 0) pe_int (fun _ _ => rfl)) (pa_cons (pv 1) pa_nil))) (pa_cons (pe_ix ix_tup (pv 0) pe_int (fun _ _ => rfl)) pa_nil))))))) pss_nil)
      (pss_one (ps_ret (pe_tup (pa_cons (pv 2) (pa_cons (pe_call G_finer (hr.mono (by omega)) (by rfl) g_finer kp_finer b_finer .nil pass0 (pa_cons (pe_ix ix_tup (pv 0) pe_int (fun _ _ => rfl)) (pa_cons (pv 1) pa_nil))) (pa_cons (pe_op op_mul (pe_ix ix_tup (pv 0) pe_int (fun _ _ => rfl)) (pv 1)) pa_nil)))))))))))) (shs_seq (shs_asg (shg_name 2) (sh_op Mi.s_ixT (sh_var 0) (sh_int (0))))
  (shs_seq (shs_if (sht_test (sh_op Mi.s_eq (sh_var 2) (sh_str "number"))) (shs_ret (sh_var 0)) shs_next)
  (shs_seq (shs_if (sht_test (sh_op Mi.s_eq (sh_var 2) (sh_str "wave"))) (shs_ret (sh_tup (sha_cons (sh_var 2) (sha_cons (sh_call (sha_cons (sh_op Mi.s_ixT (sh_var 0) (sh_int (1))) (sha_cons (sh_var 1) sha_nil)) rfl) sha_nil)) (Nat.le_of_ble_eq_true rfl))) shs_next)
  (shs_seq (shs_if (sht_test (sh_op Mi.s_eq (sh_var 2) (sh_str "sum"))) (shs_ret (sh_tupS (shas_one (sh_var 2) (shas_star (ShF.e (shf_lc (shi_tup (sh_slT (sh_var 0) (sho_some (sh_int (1))) sho_none)) (shg_name 3) (by decide) sht_yes (sh_call (sha_cons (sh_var 3) (sha_cons (sh_var 1) sha_nil)) rfl))) shas_nil)))) shs_next)
  (shs_seq (shs_if (sht_test (sh_op Mi.s_eq (sh_var 2) (sh_str "share"))) (shs_ret (sh_tup (sha_cons (sh_var 2) (sha_cons (sh_call (sha_cons (sh_op Mi.s_ixT (sh_var 0) (sh_int (1))) (sha_cons (sh_var 1) sha_nil)) rfl) (sha_cons (sh_op Mi.s_ixT (sh_var 0) (sh_int (2))) (sha_cons (sh_op Mi.s_ixT (sh_var 0) (sh_int (3))) sha_nil)))) (Nat.le_of_ble_eq_true rfl))) shs_next)
  (shs_seq (shs_if (sht_test (sh_op Mi.s_eq (sh_var 2) (sh_str "product"))) (shs_ret (sh_tup (sha_cons (sh_var 2) (sha_cons (sh_call (sha_cons (sh_op Mi.s_ixT (sh_var 0) (sh_int (1))) (sha_cons (sh_var 1) sha_nil)) rfl) (sha_cons (sh_call (sha_cons (sh_op Mi.s_ixT (sh_var 0) (sh_int (2))) (sha_cons (sh_var 1) sha_nil)) rfl) (sha_cons (sh_op Mi.s_ixT (sh_var 0) (sh_int (3))) sha_nil)))) (Nat.le_of_ble_eq_true rfl))) shs_next)
  (shs_ret (sh_tup (sha_cons (sh_var 2) (sha_cons (sh_call (sha_cons (sh_op Mi.s_ixT (sh_var 0) (sh_int (1))) (sha_cons (sh_var 1) sha_nil)) rfl) (sha_cons (sh_op Mi.s_mul (sh_op Mi.s_ixT (sh_var 0) (sh_int (2))) (sh_var 1)) sha_nil))) (Nat.le_of_ble_eq_true rfl))))))))) h (by decide)
    · obtain ⟨f, fd, F, g, bi⟩ := T.d__finer_angle
      refine ⟨f, fd, ?_, g, F.kp, bi⟩
      rw [r__finer_angle_succ]
      refine F.ok sc__finer_angle (fun vs H Q E h => h.1) (fun cdv A outer s H vs Q E hr h => ?_)
      exact fin_P (mg := mg) (f := q__finer_angle (r_finer n) (r__finer_angle n)) (pss_cons (ps_set (i := 2) sc__finer_angle.nd rfl (by first | exact Or.inl rfl | exact Or.inr rfl) (pe_ix ix_tup (pv 0) pe_int (fun _ _ => rfl)))
      (pss_cons (ps_if (pt_cmpR op_eq (pv 2) pe_str (nomark _)) (pss_one (ps_ret (pe_tup (pa_cons (pv 2) (pa_cons (pe_ix ix_tup (pv 0) pe_int (fun _ _ => rfl)) (pa_cons (pe_ix ix_tup (pv 0) pe_int (fun _ _ => rfl)) (pa_cons (pe_op op_mul (pe_ix ix_tup (pv 0) pe_int (fun _ _ => rfl)) (pv 1)) pa_nil))))))) pss_nil)
      (pss_cons (ps_if (pt_cmpR op_eq (pv 2) pe_str (nomark _)) (pss_one (ps_ret (pe_tup (pa_cons (pv 2) (pa_cons (pe_call G__finer_angle (hr.mono (by omega)) (by rfl) g__finer_angle kp__finer_angle b__finer_angle .nil pass0 (pa_cons (pe_ix ix_tup (pv 0) pe_int (fun _ _ => rfl)) (pa_cons (pv 1) pa_nil))) (pa_cons (pe_call G_finer (hr.mono (by omega)) (by rfl) g_finer kp_finer b_finer .nil pass0 (pa_cons (pe_ix ix_tup (pv 0) pe_int (fun _ _ => rfl)) (pa_cons (pv 1) pa_nil))) pa_nil)))))) pss_nil)
      (pss_one (ps_ret (pe_tup (pa_cons (pv 2) (pa_cons (pe_call G__finer_angle (hr.mono (by omega)) (by rfl) g__finer_angle kp__finer_angle b__finer_angle .nil pass0 (pa_cons (pe_ix ix_tup (pv 0) pe_int (fun _ _ => rfl)) (pa_cons (pv 1) pa_nil))) (pa_cons (pe_call G__finer_angle (hr.mono (by omega)) (by rfl) g__finer_angle kp__finer_angle b__finer_angle .nil pass0 (pa_cons (pe_ix ix_tup (pv 0) pe_int (fun _ _ => rfl)) (pa_cons (pv 1) pa_nil))) pa_nil))))))))) (shs_seq (shs_asg (shg_name 2) (sh_op Mi.s_ixT (sh_var 0) (sh_int (0))))
  (shs_seq (shs_if (sht_test (sh_op Mi.s_eq (sh_var 2) (sh_str "turning"))) (shs_ret (sh_tup (sha_cons (sh_var 2) (sha_cons (sh_op Mi.s_ixT (sh_var 0) (sh_int (1))) (sha_cons (sh_op Mi.s_ixT (sh_var 0) (sh_int (2))) (sha_cons (sh_op Mi.s_mul (sh_op Mi.s_ixT (sh_var 0) (sh_int (3))) (sh_var 1)) sha_nil)))) (Nat.le_of_ble_eq_true rfl))) shs_next)
  (shs_seq (shs_if (sht_test (sh_op Mi.s_eq (sh_var 2) (sh_str "moved"))) (shs_ret (sh_tup (sha_cons (sh_var 2) (sha_cons (sh_call (sha_cons (sh_op Mi.s_ixT (sh_var 0) (sh_int (1))) (sha_cons (sh_var 1) sha_nil)) rfl) (sha_cons (sh_call (sha_cons (sh_op Mi.s_ixT (sh_var 0) (sh_int (2))) (sha_cons (sh_var 1) sha_nil)) rfl) sha_nil))) (Nat.le_of_ble_eq_true rfl))) shs_next)
  (shs_ret (sh_tup (sha_cons (sh_var 2) (sha_cons (sh_call (sha_cons (sh_op Mi.s_ixT (sh_var 0) (sh_int (1))) (sha_cons (sh_var 1) sha_nil)) rfl) (sha_cons (sh_call (sha_cons (sh_op Mi.s_ixT (sh_var 0) (sh_int (2))) (sha_cons (sh_var 1) sha_nil)) rfl) sha_nil))) (Nat.le_of_ble_eq_true rfl)))))) h (by decide)
theorem ok_finer (T : Txt K mg) : ∃ (f : Addr) (fd : FuncData), FnOk P w K mg base CX0 (13) f fd ["q", "m"] (spP K mg 2 (r_finer 12)) ∧ mg "finer" = some (.ref f) ∧ PySem.W.keepIn K (.ref f) = true ∧ L2.Binds K fd ["q", "m"] [] := (okrec_finer T 12).1
theorem ok__finer_angle (T : Txt K mg) : ∃ (f : Addr) (fd : FuncData), FnOk P w K mg base CX0 (13) f fd ["a", "m"] (spP K mg 2 (r__finer_angle 12)) ∧ mg "_finer_angle" = some (.ref f) ∧ PySem.W.keepIn K (.ref f) = true ∧ L2.Binds K fd ["a", "m"] [] := (okrec_finer T 12).2
theorem ok__law_draw (T : Txt K mg) : ∃ (f : Addr) (fd : FuncData), FnOk P w K mg base CX0 1 f fd ["state", "bound"] (spI K 1 (runI 4 m__law_draw)) ∧ mg "_law_draw" = some (.ref f) ∧ PySem.W.keepIn K (.ref f) = true ∧ L2.Binds K fd ["state", "bound"] [] := by
  obtain ⟨f, fd, F, g, bi⟩ := T.d__law_draw
  refine ⟨f, fd, ?_, g, F.kp, bi⟩
  refine F.ok sc__law_draw (fun vs H Q E h => h.1) (fun cdv A outer s H vs Q E hr h => ?_)
  exact fin_I (mg := mg) (f := m__law_draw) (pss_cons (ps_if (PW.pt (pw_and (pt_cmpR op_eq (pe_dget (hu_of hr) (pv 0) pe_str (fun _ _ => rfl)) pe_int (nomark _)) (pw_and1 (pt_cmpR op_lt (pe_dget (hu_of hr) (pv 0) pe_str (fun _ _ => rfl)) (pe_callB call_len_seq (by rfl) T.m_len (by decide +kernel) (pa_cons (pe_dget (hu_of hr) (pv 0) pe_str (fun _ _ => rfl)) pa_nil)) (nomark _))))) (pss_cons (ps_set (i := 2) sc__law_draw.nd rfl (by first | exact Or.inl rfl | exact Or.inr rfl) (pe_ix ix_list (pe_dget (hu_of hr) (pv 0) pe_str (fun _ _ => rfl)) (pe_dget (hu_of hr) (pv 0) pe_str (fun _ _ => rfl)) (fun _ _ => rfl)))
      (pss_cons (ps_dput (hu_of hr) (pv 0) pe_str (pe_op op_add (pe_dget (hu_of hr) (pv 0) pe_str (fun _ _ => rfl)) pe_int) rfl)
      (pss_cons (ps_dput (hu_of hr) (pv 0) pe_str (pe_op op_mod (pe_callTy call_int1 (by rfl) T.m_int (by decide +kernel) (pa_cons (pe_op op_add (pe_op op_add (pe_op op_mul (pe_dget (hu_of hr) (pv 0) pe_str (fun _ _ => rfl)) pe_int) (pv 2)) pe_int) pa_nil)) pe_int) rfl)
      (pss_cons (ps_if (pt_cmpR op_lt (pv 2) (pe_op op_pow pe_int pe_int) (nomark _)) (pss_one (ps_ret (pe_op op_mod (pe_callTy call_int1 (by rfl) T.m_int (by decide +kernel) (pa_cons (pv 2) pa_nil)) (pv 1)))) pss_nil)
      (pss_one (ps_dput (hu_of hr) (pv 0) pe_str (pv 2) rfl)))))) pss_nil)
      (pss_cons (ps_if (pt_cmpR op_gt (pe_dget (hu_of hr) (pv 0) pe_str (fun _ _ => rfl)) pe_int (nomark _)) (pss_cons (ps_set (i := 3) sc__law_draw.nd rfl (by first | exact Or.inl rfl | exact Or.inr rfl) (pe_op op_mod (pe_callTy call_int1 (by rfl) T.m_int (by decide +kernel) (pa_cons (pe_dget (hu_of hr) (pv 0) pe_str (fun _ _ => rfl)) pa_nil)) (pv 1)))
      (pss_cons (ps_dput (hu_of hr) (pv 0) pe_str (pe_op op_fdivW (pe_dget (hu_of hr) (pv 0) pe_str (fun _ _ => rfl)) (pv 1)) rfl)
      (pss_one (ps_ret (pv 3))))) pss_nil)
      (pss_cons (ps_dput (hu_of hr) (pv 0) pe_str (pe_op op_mod (pe_callTy call_int1 (by rfl) T.m_int (by decide +kernel) (pa_cons (pe_op op_add (pe_op op_mul (pe_dget (hu_of hr) (pv 0) pe_str (fun _ _ => rfl)) pe_int) pe_int) pa_nil)) pe_int) rfl)
      (pss_one (ps_ret (pe_op op_mod (pe_callTy call_int1 (by rfl) T.m_int (by decide +kernel) (pa_cons (pe_op op_mod (pe_callTy call_int1 (by rfl) T.m_int (by decide +kernel) (pa_cons (pe_op op_add (pe_op op_mul (pe_dget (hu_of hr) (pv 0) pe_str (fun _ _ => rfl)) pe_int) pe_int) pa_nil)) pe_int) pa_nil)) (pv 1))))))) (shs_seq (shs_if (sht_and (sht_test (sh_op Mi.s_eq (sh_getV (sh_str "left")) (sh_int (0)))) (sht_test (sh_op Mi.s_lt (sh_getV (sh_str "at")) (sh_cb cs_len (sha_cons (sh_getV (sh_str "cells")) sha_nil))))) (shs_seq (shs_asg (shg_name 2) (sh_op Mi.s_ixL (sh_getV (sh_str "cells")) (sh_getV (sh_str "at"))))
  (shs_seq (shs_putO (sh_str "at") (sh_op Mi.s_add (sh_getV (sh_str "at")) (sh_int (1))))
  (shs_seq (shs_putO (sh_str "mix") (sh_op Mi.s_mod (sh_cb cs_int (sha_cons (sh_op Mi.s_add (sh_op Mi.s_add (sh_op Mi.s_mul (sh_getV (sh_str "mix")) (sh_int (48271))) (sh_var 2)) (sh_int (11))) sha_nil)) (sh_int (2147483647))))
  (shs_seq (shs_if (sht_test (sh_op Mi.s_lt (sh_var 2) (sh_op Mi.s_pow (sh_int (10)) (sh_int (18))))) (shs_ret (sh_op Mi.s_mod (sh_cb cs_int (sha_cons (sh_var 2) sha_nil)) (sh_var 1))) shs_next)
  (shs_putO (sh_str "left") (sh_var 2)))))) shs_next)
  (shs_seq (shs_if (sht_test (sh_op Mi.s_gt (sh_getV (sh_str "left")) (sh_int (0)))) (shs_seq (shs_asg (shg_name 3) (sh_op Mi.s_mod (sh_cb cs_int (sha_cons (sh_getV (sh_str "left")) sha_nil)) (sh_var 1)))
  (shs_seq (shs_putO (sh_str "left") (sh_op Mi.s_fdivW (sh_getV (sh_str "left")) (sh_var 1)))
  (shs_ret (sh_var 3)))) shs_next)
  (shs_seq (shs_putO (sh_str "mix") (sh_op Mi.s_mod (sh_cb cs_int (sha_cons (sh_op Mi.s_add (sh_op Mi.s_mul (sh_getV (sh_str "mix")) (sh_int (48271))) (sh_int (11))) sha_nil)) (sh_int (2147483647))))
  (shs_ret (sh_op Mi.s_mod (sh_cb cs_int (sha_cons (sh_op Mi.s_mod (sh_cb cs_int (sha_cons (sh_op Mi.s_add (sh_op Mi.s_mul (sh_getV (sh_str "mix")) (sh_int (69621))) (sh_int (5))) sha_nil)) (sh_int (2147483629))) sha_nil)) (sh_var 1)))))) h (by decide)
theorem ok__law_pick (T : Txt K mg) : ∃ (f : Addr) (fd : FuncData), FnOk P w K mg base CX0 2 f fd ["state", "things"] (spI K 1 (runI 2 m__law_pick)) ∧ mg "_law_pick" = some (.ref f) ∧ PySem.W.keepIn K (.ref f) = true ∧ L2.Binds K fd ["state", "things"] [] := by
  obtain ⟨f, fd, F, g, bi⟩ := T.d__law_pick
  obtain ⟨f__law_draw, fd__law_draw, G__law_draw, g__law_draw, kp__law_draw, b__law_draw⟩ := ok__law_draw (P := P) (w := w) (base := base) T
  refine ⟨f, fd, ?_, g, F.kp, bi⟩
  refine F.ok sc__law_pick (fun vs H Q E h => h.1) (fun cdv A outer s H vs Q E hr h => ?_)
  exact fin_I (mg := mg) (f := m__law_pick) (pss_one (ps_ret (pe_ix ix_list (pv 1) (pe_call G__law_draw (hr.mono (by omega)) (by rfl) g__law_draw kp__law_draw b__law_draw .nil pass0 (pa_cons (pv 0) (pa_cons (pe_callB call_len_seq (by rfl) T.m_len (by decide +kernel) (pa_cons (pv 1) pa_nil)) pa_nil))) (fun _ _ => rfl)))) (shs_ret (sh_op Mi.s_ixL (sh_var 1) (sh_callI (sha_cons (sh_cb cs_len (sha_cons (sh_var 1) sha_nil)) sha_nil) rfl))) h (by decide)
theorem ok__law_wave_part (T : Txt K mg) : ∃ (f : Addr) (fd : FuncData), FnOk P w K mg base CX0 3 f fd ["state"] (spI K 0 (runI 2 m__law_wave_part)) ∧ mg "_law_wave_part" = some (.ref f) ∧ PySem.W.keepIn K (.ref f) = true ∧ L2.Binds K fd ["state"] [] := by
  obtain ⟨f, fd, F, g, bi⟩ := T.d__law_wave_part
  obtain ⟨f__law_pick, fd__law_pick, G__law_pick, g__law_pick, kp__law_pick, b__law_pick⟩ := ok__law_pick (P := P) (w := w) (base := base) T
  obtain ⟨f__law_draw, fd__law_draw, G__law_draw, g__law_draw, kp__law_draw, b__law_draw⟩ := ok__law_draw (P := P) (w := w) (base := base) T
  refine ⟨f, fd, ?_, g, F.kp, bi⟩
  refine F.ok sc__law_wave_part (fun vs H Q E h => h.1) (fun cdv A outer s H vs Q E hr h => ?_)
  exact fin_I (mg := mg) (f := m__law_wave_part) (pss_cons (ps_set (i := 1) sc__law_wave_part.nd rfl (by first | exact Or.inl rfl | exact Or.inr rfl) (pe_op op_mul (pe_call G__law_pick (hr.mono (by omega)) (by rfl) g__law_pick kp__law_pick b__law_pick .nil pass0 (pa_cons (pv 0) (pa_cons (pe_lst (pa_cons (pe_un un_neg pe_int) (pa_cons pe_int pa_nil))) pa_nil))) (pe_op op_add pe_int (pe_call G__law_draw (hr.mono (by omega)) (by rfl) g__law_draw kp__law_draw b__law_draw .nil pass0 (pa_cons (pv 0) (pa_cons (pe_call G__law_pick (hr.mono (by omega)) (by rfl) g__law_pick kp__law_pick b__law_pick .nil pass0 (pa_cons (pv 0) (pa_cons (pe_lst (pa_cons pe_int (pa_cons pe_int (pa_cons pe_int pa_nil)))) pa_nil))) pa_nil))))))
      (pss_one (ps_ret (pe_tup (pa_cons pe_str (pa_cons (pe_tup (pa_cons pe_str (pa_cons (pe_call G__law_draw (hr.mono (by omega)) (by rfl) g__law_draw kp__law_draw b__law_draw .nil pass0 (pa_cons (pv 0) (pa_cons pe_int pa_nil))) (pa_cons (pv 1) (pa_cons (pe_call G__law_pick (hr.mono (by omega)) (by rfl) g__law_pick kp__law_pick b__law_pick .nil pass0 (pa_cons (pv 0) (pa_cons (pe_lst (pa_cons pe_int (pa_cons pe_int (pa_cons pe_int (pa_cons pe_int pa_nil))))) pa_nil))) pa_nil))))) pa_nil)))))) (shs_seq (shs_asg (shg_name 1) (sh_op Mi.s_mul (sh_callI (sha_cons (ShF.e (shf_lst (sha_cons (sh_un s_neg (sh_int (1))) (sha_cons (sh_int (1)) sha_nil)) (Nat.le_of_ble_eq_true rfl))) sha_nil) rfl) (sh_op Mi.s_add (sh_int (1)) (sh_callI (sha_cons (sh_callI (sha_cons (ShF.e (shf_lst (sha_cons (sh_int (300)) (sha_cons (sh_int (9000)) (sha_cons (sh_int (200000)) sha_nil))) (Nat.le_of_ble_eq_true rfl))) sha_nil) rfl) sha_nil) rfl))))
  (shs_ret (sh_tup (sha_cons (sh_str "wave") (sha_cons (sh_tup (sha_cons (sh_str "turning") (sha_cons (sh_callI (sha_cons (sh_int (1296000)) sha_nil) rfl) (sha_cons (sh_var 1) (sha_cons (sh_callI (sha_cons (ShF.e (shf_lst (sha_cons (sh_int (1)) (sha_cons (sh_int (1)) (sha_cons (sh_int (7)) (sha_cons (sh_int (60)) sha_nil)))) (Nat.le_of_ble_eq_true rfl))) sha_nil) rfl) sha_nil)))) (Nat.le_of_ble_eq_true rfl)) sha_nil)) (Nat.le_of_ble_eq_true rfl)))) h (by decide)
theorem ok__law_series (T : Txt K mg) : ∃ (f : Addr) (fd : FuncData), FnOk P w K mg base CX0 4 f fd ["state"] (spI K 0 (runI 5 m__law_series)) ∧ mg "_law_series" = some (.ref f) ∧ PySem.W.keepIn K (.ref f) = true ∧ L2.Binds K fd ["state"] [] := by
  obtain ⟨f, fd, F, g, bi⟩ := T.d__law_series
  obtain ⟨f__law_wave_part, fd__law_wave_part, G__law_wave_part, g__law_wave_part, kp__law_wave_part, b__law_wave_part⟩ := ok__law_wave_part (P := P) (w := w) (base := base) T
  obtain ⟨f__law_draw, fd__law_draw, G__law_draw, g__law_draw, kp__law_draw, b__law_draw⟩ := ok__law_draw (P := P) (w := w) (base := base) T
  obtain ⟨f__law_pick, fd__law_pick, G__law_pick, g__law_pick, kp__law_pick, b__law_pick⟩ := ok__law_pick (P := P) (w := w) (base := base) T
  refine ⟨f, fd, ?_, g, F.kp, bi⟩
  refine F.ok sc__law_series (fun vs H Q E h => h.1) (fun cdv A outer s H vs Q E hr h => ?_)
  exact fin_I (mg := mg) (f := m__law_series) (pss_cons (ps_set (i := 1) sc__law_series.nd rfl (by first | exact Or.inl rfl | exact Or.inr rfl) (pe_lst pa_nil))
      (pss_cons (ps_for PassesOwn.never rfl (pi_range1 (by rfl) T.m_range (pa_cons (pe_op op_add pe_int (pe_call G__law_draw (hr.mono (by omega)) (by rfl) g__law_draw kp__law_draw b__law_draw .nil pass0 (pa_cons (pv 0) (pa_cons pe_int pa_nil)))) pa_nil)) (pg_name (i := 2) sc__law_series.nd rfl (by first | exact Or.inl rfl | exact Or.inr rfl)) (pss_cons (ps_set (i := 3) sc__law_series.nd rfl (by first | exact Or.inl rfl | exact Or.inr rfl) (pe_call G__law_wave_part (hr.mono (by omega)) (by rfl) g__law_wave_part kp__law_wave_part b__law_wave_part .nil pass0 (pa_cons (pv 0) pa_nil)))
      (pss_cons (ps_set (i := 4) sc__law_series.nd rfl (by first | exact Or.inl rfl | exact Or.inr rfl) (pe_call G__law_draw (hr.mono (by omega)) (by rfl) g__law_draw kp__law_draw b__law_draw .nil pass0 (pa_cons (pv 0) (pa_cons pe_int pa_nil))))
      (pss_cons (ps_if (pt_cmpR op_eq (pv 4) pe_int (nomark _)) (pss_one (ps_set (i := 3) sc__law_series.nd rfl (by first | exact Or.inl rfl | exact Or.inr rfl) (pe_tup (pa_cons pe_str (pa_cons (pv 3) (pa_cons (pe_call G__law_wave_part (hr.mono (by omega)) (by rfl) g__law_wave_part kp__law_wave_part b__law_wave_part .nil pass0 (pa_cons (pv 0) pa_nil)) (pa_cons pe_int pa_nil))))))) pss_nil)
      (pss_cons (ps_if (pt_cmpR op_eq (pv 4) pe_int (nomark _)) (pss_one (ps_set (i := 3) sc__law_series.nd rfl (by first | exact Or.inl rfl | exact Or.inr rfl) (pe_tup (pa_cons pe_str (pa_cons (pv 3) (pa_cons (pe_op op_sub (pe_call G__law_draw (hr.mono (by omega)) (by rfl) g__law_draw kp__law_draw b__law_draw .nil pass0 (pa_cons (pv 0) (pa_cons pe_int pa_nil))) pe_int) (pa_cons pe_int pa_nil))))))) pss_nil)
      (pss_cons (ps_if (pt_cmpR op_eq (pv 4) pe_int (nomark _)) (pss_one (ps_set (i := 3) sc__law_series.nd rfl (by first | exact Or.inl rfl | exact Or.inr rfl) (pe_tup (pa_cons pe_str (pa_cons (pe_tup (pa_cons pe_str (pa_cons (pe_ix ix_tup (pv 3) pe_int (fun _ _ => rfl)) (pa_cons (pe_tup (pa_cons pe_str (pa_cons (pe_call G__law_wave_part (hr.mono (by omega)) (by rfl) g__law_wave_part kp__law_wave_part b__law_wave_part .nil pass0 (pa_cons (pv 0) pa_nil)) (pa_cons (pe_call G__law_draw (hr.mono (by omega)) (by rfl) g__law_draw kp__law_draw b__law_draw .nil pass0 (pa_cons (pv 0) (pa_cons pe_int pa_nil))) (pa_cons pe_int pa_nil))))) pa_nil)))) pa_nil))))) pss_nil)
      (pss_one (ps_expr (pe_bm PySem.F.plainAttrs_list PySem.F.slot_list_append PySem.F.type_list_append mt_append (pv 1) (pa_cons (pv 3) pa_nil))))))))))
      (pss_cons (ps_expr (pe_bm PySem.F.plainAttrs_list PySem.F.slot_list_append PySem.F.type_list_append mt_append (pv 1) (pa_cons (pe_tup (pa_cons pe_str (pa_cons (pe_call G__law_pick (hr.mono (by omega)) (by rfl) g__law_pick kp__law_pick b__law_pick .nil pass0 (pa_cons (pv 0) (pa_cons (pe_lst (pa_cons pe_int (pa_cons pe_int (pa_cons pe_int (pa_cons (pe_un un_neg pe_int) (pa_cons (pe_op op_sub (pe_call G__law_draw (hr.mono (by omega)) (by rfl) g__law_draw kp__law_draw b__law_draw .nil pass0 (pa_cons (pv 0) (pa_cons pe_int pa_nil))) pe_int) pa_nil)))))) pa_nil))) pa_nil))) pa_nil)))
      (pss_one (ps_ret (pe_op op_catA (pe_tup (pa_cons pe_str pa_nil)) (pe_callTy call_tuple_of (by rfl) T.m_tuple (by decide +kernel) (pa_cons (pv 1) pa_nil)))))))) (shs_seq (shs_setO (shf_lst sha_nil (Nat.le_of_ble_eq_true rfl)))
  (shs_seq (shs_for (shi_rng1 (sha_cons (sh_op Mi.s_add (sh_int (1)) (sh_callI (sha_cons (sh_int (3)) sha_nil) rfl)) sha_nil)) (shg_name 2) (shs_seq (shs_asg (shg_name 3) (sh_callI sha_nil rfl))
  (shs_seq (shs_asg (shg_name 4) (sh_callI (sha_cons (sh_int (4)) sha_nil) rfl))
  (shs_seq (shs_if (sht_test (sh_op Mi.s_eq (sh_var 4) (sh_int (0)))) (shs_asg (shg_name 3) (sh_tup (sha_cons (sh_str "product") (sha_cons (sh_var 3) (sha_cons (sh_callI sha_nil rfl) (sha_cons (sh_int (1000000)) sha_nil)))) (Nat.le_of_ble_eq_true rfl))) shs_next)
  (shs_seq (shs_if (sht_test (sh_op Mi.s_eq (sh_var 4) (sh_int (1)))) (shs_asg (shg_name 3) (sh_tup (sha_cons (sh_str "share") (sha_cons (sh_var 3) (sha_cons (sh_op Mi.s_sub (sh_callI (sha_cons (sh_int (4001)) sha_nil) rfl) (sh_int (2000))) (sha_cons (sh_int (1000)) sha_nil)))) (Nat.le_of_ble_eq_true rfl))) shs_next)
  (shs_seq (shs_if (sht_test (sh_op Mi.s_eq (sh_var 4) (sh_int (2)))) (shs_asg (shg_name 3) (sh_tup (sha_cons (sh_str "wave") (sha_cons (sh_tup (sha_cons (sh_str "moved") (sha_cons (sh_op Mi.s_ixT (sh_var 3) (sh_int (1))) (sha_cons (sh_tup (sha_cons (sh_str "share") (sha_cons (sh_callI sha_nil rfl) (sha_cons (sh_callI (sha_cons (sh_int (40000)) sha_nil) rfl) (sha_cons (sh_int (1000000)) sha_nil)))) (Nat.le_of_ble_eq_true rfl)) sha_nil))) (Nat.le_of_ble_eq_true rfl)) sha_nil)) (Nat.le_of_ble_eq_true rfl))) shs_next)
  (shs_drop (sh_app (sh_var 3)))))))))
  (shs_seq (shs_drop (sh_app (sh_tup (sha_cons (sh_str "number") (sha_cons (sh_callI (sha_cons (ShF.e (shf_lst (sha_cons (sh_int (0)) (sha_cons (sh_int (0)) (sha_cons (sh_int (1)) (sha_cons (sh_un s_neg (sh_int (1))) (sha_cons (sh_op Mi.s_sub (sh_callI (sha_cons (sh_int (2000001)) sha_nil) rfl) (sh_int (1000000))) sha_nil))))) (Nat.le_of_ble_eq_true rfl))) sha_nil) rfl) sha_nil)) (Nat.le_of_ble_eq_true rfl))))
  (shs_ret (sh_op Mi.s_catT (sh_tup (sha_cons (sh_str "sum") sha_nil) (Nat.le_of_ble_eq_true rfl)) (sh_cb cs_tup (sha_cons (sh_var 1) sha_nil))))))) h (by decide)
theorem ok__law_number (T : Txt K mg) : ∃ (f : Addr) (fd : FuncData), FnOk P w K mg base CX0 3 f fd ["state"] (spI K 0 (runI 1 m__law_number)) ∧ mg "_law_number" = some (.ref f) ∧ PySem.W.keepIn K (.ref f) = true ∧ L2.Binds K fd ["state"] [] := by
  obtain ⟨f, fd, F, g, bi⟩ := T.d__law_number
  obtain ⟨f__law_pick, fd__law_pick, G__law_pick, g__law_pick, kp__law_pick, b__law_pick⟩ := ok__law_pick (P := P) (w := w) (base := base) T
  obtain ⟨f__law_draw, fd__law_draw, G__law_draw, g__law_draw, kp__law_draw, b__law_draw⟩ := ok__law_draw (P := P) (w := w) (base := base) T
  refine ⟨f, fd, ?_, g, F.kp, bi⟩
  refine F.ok sc__law_number (fun vs H Q E h => h.1) (fun cdv A outer s H vs Q E hr h => ?_)
  exact fin_I (mg := mg) (f := m__law_number) (pss_one (ps_ret (pe_op op_mul (pe_call G__law_pick (hr.mono (by omega)) (by rfl) g__law_pick kp__law_pick b__law_pick .nil pass0 (pa_cons (pv 0) (pa_cons (pe_lst (pa_cons (pe_un un_neg pe_int) (pa_cons pe_int pa_nil))) pa_nil))) (pe_call G__law_draw (hr.mono (by omega)) (by rfl) g__law_draw kp__law_draw b__law_draw .nil pass0 (pa_cons (pv 0) (pa_cons (pe_call G__law_pick (hr.mono (by omega)) (by rfl) g__law_pick kp__law_pick b__law_pick .nil pass0 (pa_cons (pv 0) (pa_cons (pe_lst (pa_cons pe_int (pa_cons pe_int (pa_cons (pe_op op_pow pe_int pe_int) (pa_cons (pe_op op_mul pe_int (pe_op op_pow pe_int pe_int)) (pa_cons (pe_op op_add (pe_op op_pow pe_int pe_int) pe_int) pa_nil)))))) pa_nil))) pa_nil)))))) (shs_ret (sh_op Mi.s_mul (sh_callI (sha_cons (ShF.e (shf_lst (sha_cons (sh_un s_neg (sh_int (1))) (sha_cons (sh_int (1)) sha_nil)) (Nat.le_of_ble_eq_true rfl))) sha_nil) rfl) (sh_callI (sha_cons (sh_callI (sha_cons (ShF.e (shf_lst (sha_cons (sh_int (3)) (sha_cons (sh_int (100)) (sha_cons (sh_op Mi.s_pow (sh_int (10)) (sh_int (6))) (sha_cons (sh_op Mi.s_mul (sh_int (2)) (sh_op Mi.s_pow (sh_int (10)) (sh_int (6)))) (sha_cons (sh_op Mi.s_add (sh_op Mi.s_pow (sh_int (10)) (sh_int (12))) (sh_int (1))) sha_nil))))) (Nat.le_of_ble_eq_true rfl))) sha_nil) rfl) sha_nil) rfl))) h (by decide)
theorem ok__law_divisor (T : Txt K mg) : ∃ (f : Addr) (fd : FuncData), FnOk P w K mg base CX0 3 f fd ["state"] (spI K 0 (runI 1 m__law_divisor)) ∧ mg "_law_divisor" = some (.ref f) ∧ PySem.W.keepIn K (.ref f) = true ∧ L2.Binds K fd ["state"] [] := by
  obtain ⟨f, fd, F, g, bi⟩ := T.d__law_divisor
  obtain ⟨f__law_draw, fd__law_draw, G__law_draw, g__law_draw, kp__law_draw, b__law_draw⟩ := ok__law_draw (P := P) (w := w) (base := base) T
  obtain ⟨f__law_pick, fd__law_pick, G__law_pick, g__law_pick, kp__law_pick, b__law_pick⟩ := ok__law_pick (P := P) (w := w) (base := base) T
  refine ⟨f, fd, ?_, g, F.kp, bi⟩
  refine F.ok sc__law_divisor (fun vs H Q E h => h.1) (fun cdv A outer s H vs Q E hr h => ?_)
  exact fin_I (mg := mg) (f := m__law_divisor) (pss_one (ps_ret (pe_op op_add pe_int (pe_call G__law_draw (hr.mono (by omega)) (by rfl) g__law_draw kp__law_draw b__law_draw .nil pass0 (pa_cons (pv 0) (pa_cons (pe_call G__law_pick (hr.mono (by omega)) (by rfl) g__law_pick kp__law_pick b__law_pick .nil pass0 (pa_cons (pv 0) (pa_cons (pe_lst (pa_cons pe_int (pa_cons pe_int (pa_cons (pe_op op_pow pe_int pe_int) (pa_cons (pe_op op_pow pe_int pe_int) pa_nil))))) pa_nil))) pa_nil)))))) (shs_ret (sh_op Mi.s_add (sh_int (1)) (sh_callI (sha_cons (sh_callI (sha_cons (ShF.e (shf_lst (sha_cons (sh_int (3)) (sha_cons (sh_int (1000)) (sha_cons (sh_op Mi.s_pow (sh_int (10)) (sh_int (6))) (sha_cons (sh_op Mi.s_pow (sh_int (10)) (sh_int (12))) sha_nil)))) (Nat.le_of_ble_eq_true rfl))) sha_nil) rfl) sha_nil) rfl))) h (by decide)
theorem okrec__law_angle (T : Txt K mg) : ∀ n : Nat, (∃ (f : Addr) (fd : FuncData), FnOk P w K mg base CX0 (n + 4) f fd ["state", "deep"] (spI K 1 (r__law_angle n)) ∧ mg "_law_angle" = some (.ref f) ∧ PySem.W.keepIn K (.ref f) = true ∧ L2.Binds K fd ["state", "deep"] []) ∧ (∃ (f : Addr) (fd : FuncData), FnOk P w K mg base CX0 (n + 4) f fd ["state", "deep"] (spI K 1 (r__law_quantity n)) ∧ mg "_law_quantity" = some (.ref f) ∧ PySem.W.keepIn K (.ref f) = true ∧ L2.Binds K fd ["state", "deep"] [])
  | 0 => ⟨by
    obtain ⟨f, fd, F, g, bi⟩ := T.d__law_angle
    exact ⟨f, fd, Rd.never.imp (fun vs H Q E h => absurd_stI h), g, F.kp, bi⟩, by
    obtain ⟨f, fd, F, g, bi⟩ := T.d__law_quantity
    exact ⟨f, fd, Rd.never.imp (fun vs H Q E h => absurd_stI h), g, F.kp, bi⟩⟩
  | n + 1 => by
    obtain ⟨f__law_draw, fd__law_draw, G__law_draw, g__law_draw, kp__law_draw, b__law_draw⟩ := ok__law_draw (P := P) (w := w) (base := base) T
    obtain ⟨f__law_pick, fd__law_pick, G__law_pick, g__law_pick, kp__law_pick, b__law_pick⟩ := ok__law_pick (P := P) (w := w) (base := base) T
    obtain ⟨f__law_number, fd__law_number, G__law_number, g__law_number, kp__law_number, b__law_number⟩ := ok__law_number (P := P) (w := w) (base := base) T
    obtain ⟨f__law_divisor, fd__law_divisor, G__law_divisor, g__law_divisor, kp__law_divisor, b__law_divisor⟩ := ok__law_divisor (P := P) (w := w) (base := base) T
    obtain ⟨⟨f__law_angle, fd__law_angle, G__law_angle, g__law_angle, kp__law_angle, b__law_angle⟩, ⟨f__law_quantity, fd__law_quantity, G__law_quantity, g__law_quantity, kp__law_quantity, b__law_quantity⟩⟩ := okrec__law_angle T n
    refine ⟨?_, ?_⟩
    · obtain ⟨f, fd, F, g, bi⟩ := T.d__law_angle
      refine ⟨f, fd, ?_, g, F.kp, bi⟩
      rw [r__law_angle_succ]
      refine F.ok sc__law_angle (fun vs H Q E h => h.1) (fun cdv A outer s H vs Q E hr h => ?_)
      exact fin_I (mg := mg) (f := q__law_angle (r__law_angle n) (r__law_quantity n)) (pss_cons (ps_set (i := 2) sc__law_angle.nd rfl (by first | exact Or.inl rfl | exact Or.inr rfl) (pe_ifExp (pt_cmpR op_gt (pv 1) pe_int (nomark _)) (pe_call G__law_draw (hr.mono (by omega)) (by rfl) g__law_draw kp__law_draw b__law_draw .nil pass0 (pa_cons (pv 0) (pa_cons pe_int pa_nil))) pe_int))
      (pss_cons (ps_if (pt_cmpR op_lt (pv 2) pe_int (nomark _)) (pss_cons (ps_set (i := 3) sc__law_angle.nd rfl (by first | exact Or.inl rfl | exact Or.inr rfl) (pe_op op_mul (pe_call G__law_pick (hr.mono (by omega)) (by rfl) g__law_pick kp__law_pick b__law_pick .nil pass0 (pa_cons (pv 0) (pa_cons (pe_lst (pa_cons (pe_un un_neg pe_int) (pa_cons pe_int pa_nil))) pa_nil))) (pe_call G__law_draw (hr.mono (by omega)) (by rfl) g__law_draw kp__law_draw b__law_draw .nil pass0 (pa_cons (pv 0) (pa_cons (pe_call G__law_pick (hr.mono (by omega)) (by rfl) g__law_pick kp__law_pick b__law_pick .nil pass0 (pa_cons (pv 0) (pa_cons (pe_lst (pa_cons pe_int (pa_cons pe_int (pa_cons pe_int (pa_cons (pe_op op_pow pe_int pe_int) pa_nil))))) pa_nil))) pa_nil)))))
      (pss_one (ps_ret (pe_tup (pa_cons pe_str (pa_cons (pe_call G__law_number (hr.mono (by omega)) (by rfl) g__law_number kp__law_number b__law_number .nil pass0 (pa_cons (pv 0) pa_nil)) (pa_cons (pv 3) (pa_cons (pe_call G__law_pick (hr.mono (by omega)) (by rfl) g__law_pick kp__law_pick b__law_pick .nil pass0 (pa_cons (pv 0) (pa_cons (pe_lst (pa_cons pe_int (pa_cons pe_int (pa_cons pe_int (pa_cons pe_int (pa_cons (pe_op op_pow pe_int pe_int) pa_nil)))))) pa_nil))) pa_nil)))))))) pss_nil)
      (pss_cons (ps_if (pt_cmpR op_eq (pv 2) pe_int (nomark _)) (pss_one (ps_ret (pe_tup (pa_cons pe_str (pa_cons (pe_call G__law_angle (hr.mono (by omega)) (by rfl) g__law_angle kp__law_angle b__law_angle .nil pass0 (pa_cons (pv 0) (pa_cons (pe_op op_sub (pv 1) pe_int) pa_nil))) (pa_cons (pe_call G__law_quantity (hr.mono (by omega)) (by rfl) g__law_quantity kp__law_quantity b__law_quantity .nil pass0 (pa_cons (pv 0) (pa_cons (pe_op op_sub (pv 1) pe_int) pa_nil))) pa_nil)))))) pss_nil)
      (pss_one (ps_ret (pe_tup (pa_cons pe_str (pa_cons (pe_call G__law_angle (hr.mono (by omega)) (by rfl) g__law_angle kp__law_angle b__law_angle .nil pass0 (pa_cons (pv 0) (pa_cons (pe_op op_sub (pv 1) pe_int) pa_nil))) (pa_cons (pe_call G__law_angle (hr.mono (by omega)) (by rfl) g__law_angle kp__law_angle b__law_angle .nil pass0 (pa_cons (pv 0) (pa_cons (pe_op op_sub (pv 1) pe_int) pa_nil))) pa_nil))))))))) (shs_seq (shs_asg (shg_name 2) (sh_if (sht_test (sh_op Mi.s_gt (sh_var 1) (sh_int (0)))) (sh_callI (sha_cons (sh_int (4)) sha_nil) rfl) (sh_int (0))))
  (shs_seq (shs_if (sht_test (sh_op Mi.s_lt (sh_var 2) (sh_int (2)))) (shs_seq (shs_asg (shg_name 3) (sh_op Mi.s_mul (sh_callI (sha_cons (ShF.e (shf_lst (sha_cons (sh_un s_neg (sh_int (1))) (sha_cons (sh_int (1)) sha_nil)) (Nat.le_of_ble_eq_true rfl))) sha_nil) rfl) (sh_callI (sha_cons (sh_callI (sha_cons (ShF.e (shf_lst (sha_cons (sh_int (9)) (sha_cons (sh_int (1000)) (sha_cons (sh_int (400000)) (sha_cons (sh_op Mi.s_pow (sh_int (10)) (sh_int (12))) sha_nil)))) (Nat.le_of_ble_eq_true rfl))) sha_nil) rfl) sha_nil) rfl)))
  (shs_ret (sh_tup (sha_cons (sh_str "turning") (sha_cons (sh_callI sha_nil rfl) (sha_cons (sh_var 3) (sha_cons (sh_callI (sha_cons (ShF.e (shf_lst (sha_cons (sh_int (1)) (sha_cons (sh_int (1)) (sha_cons (sh_int (7)) (sha_cons (sh_int (1000)) (sha_cons (sh_op Mi.s_pow (sh_int (10)) (sh_int (9))) sha_nil))))) (Nat.le_of_ble_eq_true rfl))) sha_nil) rfl) sha_nil)))) (Nat.le_of_ble_eq_true rfl)))) shs_next)
  (shs_seq (shs_if (sht_test (sh_op Mi.s_eq (sh_var 2) (sh_int (2)))) (shs_ret (sh_tup (sha_cons (sh_str "moved") (sha_cons (sh_callI (sha_cons (sh_op Mi.s_sub (sh_var 1) (sh_int (1))) sha_nil) rfl) (sha_cons (sh_callI (sha_cons (sh_op Mi.s_sub (sh_var 1) (sh_int (1))) sha_nil) rfl) sha_nil))) (Nat.le_of_ble_eq_true rfl))) shs_next)
  (shs_ret (sh_tup (sha_cons (sh_str "minus") (sha_cons (sh_callI (sha_cons (sh_op Mi.s_sub (sh_var 1) (sh_int (1))) sha_nil) rfl) (sha_cons (sh_callI (sha_cons (sh_op Mi.s_sub (sh_var 1) (sh_int (1))) sha_nil) rfl) sha_nil))) (Nat.le_of_ble_eq_true rfl)))))) h (by decide)
    · obtain ⟨f, fd, F, g, bi⟩ := T.d__law_quantity
      refine ⟨f, fd, ?_, g, F.kp, bi⟩
      rw [r__law_quantity_succ]
      refine F.ok sc__law_quantity (fun vs H Q E h => h.1) (fun cdv A outer s H vs Q E hr h => ?_)
      exact fin_I (mg := mg) (f := q__law_quantity (r__law_angle n) (r__law_quantity n)) (pss_cons (ps_set (i := 2) sc__law_quantity.nd rfl (by first | exact Or.inl rfl | exact Or.inr rfl) (pe_ifExp (pt_cmpR op_gt (pv 1) pe_int (nomark _)) (pe_call G__law_draw (hr.mono (by omega)) (by rfl) g__law_draw kp__law_draw b__law_draw .nil pass0 (pa_cons (pv 0) (pa_cons pe_int pa_nil))) (pe_op op_mul (pe_call G__law_draw (hr.mono (by omega)) (by rfl) g__law_draw kp__law_draw b__law_draw .nil pass0 (pa_cons (pv 0) (pa_cons pe_int pa_nil))) pe_int)))
      (pss_cons (ps_if (pt_cmpR op_eq (pv 2) pe_int (nomark _)) (pss_one (ps_ret (pe_tup (pa_cons pe_str (pa_cons (pe_call G__law_number (hr.mono (by omega)) (by rfl) g__law_number kp__law_number b__law_number .nil pass0 (pa_cons (pv 0) pa_nil)) pa_nil))))) pss_nil)
      (pss_cons (ps_if (pt_cmpR op_in_seq (pv 2) (pe_lst (pa_cons pe_int (pa_cons pe_int pa_nil))) (by rfl)) (pss_one (ps_ret (pe_tup (pa_cons pe_str (pa_cons (pe_call G__law_angle (hr.mono (by omega)) (by rfl) g__law_angle kp__law_angle b__law_angle .nil pass0 (pa_cons (pv 0) (pa_cons (pe_callB (call_max2 rfl) (by rfl) T.m_max (by decide +kernel) (pa_cons pe_int (pa_cons (pe_op op_sub (pv 1) pe_int) pa_nil))) pa_nil))) pa_nil))))) pss_nil)
      (pss_cons (ps_if (pt_cmpR op_in_seq (pv 2) (pe_lst (pa_cons pe_int (pa_cons pe_int pa_nil))) (by rfl)) (pss_one (ps_ret (pe_op op_catA (pe_tup (pa_cons pe_str pa_nil)) (pe_callTy call_tuple_of (by rfl) T.m_tuple (by decide +kernel) (pa_cons (pe_lc (own := [("k", 3)]) (g := gName 3) (tt := tYes) (by rfl) sc__law_quantity.nd (pi_range1 (by rfl) T.m_range (pa_cons (pe_op op_add pe_int (pe_call G__law_draw (hr.mono (by omega)) (by rfl) g__law_draw kp__law_draw b__law_draw .nil pass0 (pa_cons (pv 0) (pa_cons pe_int pa_nil)))) pa_nil)) (blkOk_by (own := [("k", 3)]) (N := ["state", "deep", "kind", "k"]) (sc := defScope s__law_quantity) (by decide +kernel)) (fun _ _ _ _ _ => (pg_name (i := 3) sc__law_quantity.nd rfl (by first | exact Or.inl rfl | exact Or.inr rfl))) (fun _ _ _ _ _ => pts_nil) (fun _ _ _ _ _ => (pe_call G__law_quantity (hr.mono (by omega)) (by rfl) g__law_quantity kp__law_quantity b__law_quantity .nil pass0 (pa_cons (pv 0) (pa_cons (pe_op op_sub (pv 1) pe_int) pa_nil))))) pa_nil))))) pss_nil)
      (pss_cons (ps_if (pt_cmpR op_eq (pv 2) pe_int (nomark _)) (pss_one (ps_ret (pe_tup (pa_cons pe_str (pa_cons (pe_call G__law_quantity (hr.mono (by omega)) (by rfl) g__law_quantity kp__law_quantity b__law_quantity .nil pass0 (pa_cons (pv 0) (pa_cons (pe_op op_sub (pv 1) pe_int) pa_nil))) (pa_cons (pe_call G__law_number (hr.mono (by omega)) (by rfl) g__law_number kp__law_number b__law_number .nil pass0 (pa_cons (pv 0) pa_nil)) (pa_cons (pe_call G__law_divisor (hr.mono (by omega)) (by rfl) g__law_divisor kp__law_divisor b__law_divisor .nil pass0 (pa_cons (pv 0) pa_nil)) pa_nil))))))) pss_nil)
      (pss_cons (ps_if (pt_cmpR op_eq (pv 2) pe_int (nomark _)) (pss_one (ps_ret (pe_tup (pa_cons pe_str (pa_cons (pe_call G__law_quantity (hr.mono (by omega)) (by rfl) g__law_quantity kp__law_quantity b__law_quantity .nil pass0 (pa_cons (pv 0) (pa_cons (pe_op op_sub (pv 1) pe_int) pa_nil))) (pa_cons (pe_call G__law_quantity (hr.mono (by omega)) (by rfl) g__law_quantity kp__law_quantity b__law_quantity .nil pass0 (pa_cons (pv 0) (pa_cons (pe_op op_sub (pv 1) pe_int) pa_nil))) (pa_cons (pe_call G__law_divisor (hr.mono (by omega)) (by rfl) g__law_divisor kp__law_divisor b__law_divisor .nil pass0 (pa_cons (pv 0) pa_nil)) pa_nil))))))) pss_nil)
      (pss_one (ps_ret (pe_tup (pa_cons pe_str (pa_cons (pe_call G__law_quantity (hr.mono (by omega)) (by rfl) g__law_quantity kp__law_quantity b__law_quantity .nil pass0 (pa_cons (pv 0) (pa_cons (pe_op op_sub (pv 1) pe_int) pa_nil))) (pa_cons (pe_op op_sub (pe_call G__law_draw (hr.mono (by omega)) (by rfl) g__law_draw kp__law_draw b__law_draw .nil pass0 (pa_cons (pv 0) (pa_cons pe_int pa_nil))) pe_int) pa_nil)))))))))))) (shs_seq (shs_asg (shg_name 2) (sh_if (sht_test (sh_op Mi.s_gt (sh_var 1) (sh_int (0)))) (sh_callI (sha_cons (sh_int (8)) sha_nil) rfl) (sh_op Mi.s_mul (sh_callI (sha_cons (sh_int (2)) sha_nil) rfl) (sh_int (7)))))
  (shs_seq (shs_if (sht_test (sh_op Mi.s_eq (sh_var 2) (sh_int (0)))) (shs_ret (sh_tup (sha_cons (sh_str "number") (sha_cons (sh_callI sha_nil rfl) sha_nil)) (Nat.le_of_ble_eq_true rfl))) shs_next)
  (shs_seq (shs_if (sht_test (sh_op (s_in false) (sh_var 2) (ShF.e (shf_lst (sha_cons (sh_int (1)) (sha_cons (sh_int (7)) sha_nil)) (Nat.le_of_ble_eq_true rfl))))) (shs_ret (sh_tup (sha_cons (sh_str "wave") (sha_cons (sh_callI (sha_cons (sh_cb cs_max2 (sha_cons (sh_int (0)) (sha_cons (sh_op Mi.s_sub (sh_var 1) (sh_int (1))) sha_nil))) sha_nil) rfl) sha_nil)) (Nat.le_of_ble_eq_true rfl))) shs_next)
  (shs_seq (shs_if (sht_test (sh_op (s_in false) (sh_var 2) (ShF.e (shf_lst (sha_cons (sh_int (2)) (sha_cons (sh_int (3)) sha_nil)) (Nat.le_of_ble_eq_true rfl))))) (shs_ret (sh_op Mi.s_catT (sh_tup (sha_cons (sh_str "sum") sha_nil) (Nat.le_of_ble_eq_true rfl)) (sh_cb cs_tup (sha_cons (ShF.e (shf_lc (shi_rng1 (sha_cons (sh_op Mi.s_add (sh_int (1)) (sh_callI (sha_cons (sh_int (3)) sha_nil) rfl)) sha_nil)) (shg_name 3) (by decide) sht_yes (sh_callI (sha_cons (sh_op Mi.s_sub (sh_var 1) (sh_int (1))) sha_nil) rfl))) sha_nil)))) shs_next)
  (shs_seq (shs_if (sht_test (sh_op Mi.s_eq (sh_var 2) (sh_int (4)))) (shs_ret (sh_tup (sha_cons (sh_str "share") (sha_cons (sh_callI (sha_cons (sh_op Mi.s_sub (sh_var 1) (sh_int (1))) sha_nil) rfl) (sha_cons (sh_callI sha_nil rfl) (sha_cons (sh_callI sha_nil rfl) sha_nil)))) (Nat.le_of_ble_eq_true rfl))) shs_next)
  (shs_seq (shs_if (sht_test (sh_op Mi.s_eq (sh_var 2) (sh_int (5)))) (shs_ret (sh_tup (sha_cons (sh_str "product") (sha_cons (sh_callI (sha_cons (sh_op Mi.s_sub (sh_var 1) (sh_int (1))) sha_nil) rfl) (sha_cons (sh_callI (sha_cons (sh_op Mi.s_sub (sh_var 1) (sh_int (1))) sha_nil) rfl) (sha_cons (sh_callI sha_nil rfl) sha_nil)))) (Nat.le_of_ble_eq_true rfl))) shs_next)
  (shs_ret (sh_tup (sha_cons (sh_str "later") (sha_cons (sh_callI (sha_cons (sh_op Mi.s_sub (sh_var 1) (sh_int (1))) sha_nil) rfl) (sha_cons (sh_op Mi.s_sub (sh_callI (sha_cons (sh_int (2001)) sha_nil) rfl) (sh_int (1000))) sha_nil))) (Nat.le_of_ble_eq_true rfl))))))))) h (by decide)
theorem ok__law_angle (T : Txt K mg) : ∃ (f : Addr) (fd : FuncData), FnOk P w K mg base CX0 (16) f fd ["state", "deep"] (spI K 1 (r__law_angle 12)) ∧ mg "_law_angle" = some (.ref f) ∧ PySem.W.keepIn K (.ref f) = true ∧ L2.Binds K fd ["state", "deep"] [] := (okrec__law_angle T 12).1
theorem ok__law_quantity (T : Txt K mg) : ∃ (f : Addr) (fd : FuncData), FnOk P w K mg base CX0 (16) f fd ["state", "deep"] (spI K 1 (r__law_quantity 12)) ∧ mg "_law_quantity" = some (.ref f) ∧ PySem.W.keepIn K (.ref f) = true ∧ L2.Binds K fd ["state", "deep"] [] := (okrec__law_angle T 12).2
theorem okrec__law_finer (T : Txt K mg) : ∀ n : Nat, (∃ (f : Addr) (fd : FuncData), FnOk P w K mg base CX0 (n + 1) f fd ["q", "m"] (spP K mg 2 (r__law_finer n)) ∧ mg "_law_finer" = some (.ref f) ∧ PySem.W.keepIn K (.ref f) = true ∧ L2.Binds K fd ["q", "m"] [])
  | 0 => by
    obtain ⟨f, fd, F, g, bi⟩ := T.d__law_finer
    exact ⟨f, fd, Rd.never.imp (fun vs H Q E h => absurd_stP h), g, F.kp, bi⟩
  | n + 1 => by
    obtain ⟨f__law_finer, fd__law_finer, G__law_finer, g__law_finer, kp__law_finer, b__law_finer⟩ := okrec__law_finer T n
    · obtain ⟨f, fd, F, g, bi⟩ := T.d__law_finer
      refine ⟨f, fd, ?_, g, F.kp, bi⟩
      rw [r__law_finer_succ]
      refine F.ok sc__law_finer (fun vs H Q E h => h.1) (fun cdv A outer s H vs Q E hr h => ?_)
      exact fin_P (mg := mg) (f := q__law_finer (r__law_finer n)) (pss_cons (ps_if (pt_cmpR op_eq (pe_ix ix_tup (pv 0) pe_int (fun _ _ => rfl)) pe_str (nomark _)) (pss_one (ps_ret (pe_op op_catA (pe_slice sl_tupA (pv 0) po_none (po_some pe_int)) (pe_tup (pa_cons (pe_op op_mul (pe_ix ix_tup (pv 0) pe_int (fun _ _ => rfl)) (pv 1)) pa_nil))))) pss_nil)
      (pss_cons (ps_if (pt_cmpR op_eq (pe_ix ix_tup (pv 0) pe_int (fun _ _ => rfl)) pe_str (nomark _)) (pss_one (ps_ret (pe_tup (pa_cons pe_str (pa_cons (pe_call G__law_finer (hr.mono (by omega)) (by rfl) g__law_finer kp__law_finer b__law_finer .nil pass0 (pa_cons (pe_ix ix_tup (pv 0) pe_int (fun _ _ => rfl)) (pa_cons (pv 1) pa_nil))) (pa_cons (pe_op op_mul (pe_ix ix_tup (pv 0) pe_int (fun _ _ => rfl)) (pv 1)) pa_nil)))))) pss_nil)
      (pss_one (ps_ret (pe_callTy call_tuple_of (by rfl) T.m_tuple (by decide +kernel) (pa_cons (pe_lc (own := [("part", 2)]) (g := gName 2) (tt := tYes) (by rfl) sc__law_finer.nd (pi_tup (pv 0)) (blkOk_by (own := [("part", 2)]) (N := ["q", "m", "part"]) (sc := defScope s__law_finer) (by decide +kernel)) (fun _ _ _ _ _ => (pg_name (i := 2) sc__law_finer.nd rfl (by first | exact Or.inl rfl | exact Or.inr rfl))) (fun _ _ _ _ _ => pts_nil) (fun _ _ _ _ _ => (pe_ifExp (pt_val (pe_callB (r := rIsi K) call_isi (by rfl) T.m_isinstance (by decide +kernel) (pa_cons (pv 2) (pa_cons (pe_bltn (v := .ty "tuple") (by rfl) T.m_tuple (by decide +kernel) rfl) pa_nil)))) (pe_call G__law_finer (hr.mono (by omega)) (by rfl) g__law_finer kp__law_finer b__law_finer .nil pass0 (pa_cons (pv 2) (pa_cons (pv 1) pa_nil))) (pv 2)))) pa_nil)))))) (shs_seq (shs_if (sht_test (sh_op Mi.s_eq (sh_op Mi.s_ixT (sh_var 0) (sh_int (0))) (sh_str "turning"))) (shs_ret (sh_op Mi.s_catT (sh_slT (sh_var 0) sho_none (sho_some (sh_int (3)))) (sh_tup (sha_cons (sh_op Mi.s_mul (sh_op Mi.s_ixT (sh_var 0) (sh_int (3))) (sh_var 1)) sha_nil) (Nat.le_of_ble_eq_true rfl)))) shs_next)
  (shs_seq (shs_if (sht_test (sh_op Mi.s_eq (sh_op Mi.s_ixT (sh_var 0) (sh_int (0))) (sh_str "later"))) (shs_ret (sh_tup (sha_cons (sh_str "later") (sha_cons (sh_call (sha_cons (sh_op Mi.s_ixT (sh_var 0) (sh_int (1))) (sha_cons (sh_var 1) sha_nil)) rfl) (sha_cons (sh_op Mi.s_mul (sh_op Mi.s_ixT (sh_var 0) (sh_int (2))) (sh_var 1)) sha_nil))) (Nat.le_of_ble_eq_true rfl))) shs_next)
  (shs_ret (sh_cb cs_tup (sha_cons (ShF.e (shf_lc (shi_tup (sh_var 0)) (shg_name 2) (by decide) sht_yes (sh_if (sht_B (sh_isi (sh_var 2))) (sh_call (sha_cons (sh_var 2) (sha_cons (sh_var 1) sha_nil)) rfl) (sh_var 2)))) sha_nil))))) h (by decide)
theorem ok__law_finer (T : Txt K mg) : ∃ (f : Addr) (fd : FuncData), FnOk P w K mg base CX0 (13) f fd ["q", "m"] (spP K mg 2 (r__law_finer 12)) ∧ mg "_law_finer" = some (.ref f) ∧ PySem.W.keepIn K (.ref f) = true ∧ L2.Binds K fd ["q", "m"] [] := (okrec__law_finer T 12)
theorem ok__law_changes (T : Txt K mg) : ∃ (f : Addr) (fd : FuncData), FnOk P w K mg base CX0 24 f fd ["q", "start", "end"] (spP K mg 3 (runP 7 m__law_changes)) ∧ mg "_law_changes" = some (.ref f) ∧ PySem.W.keepIn K (.ref f) = true ∧ L2.Binds K fd ["q", "start", "end"] [] := by
  obtain ⟨f, fd, F, g, bi⟩ := T.d__law_changes
  obtain ⟨f__law_value, fd__law_value, G__law_value, g__law_value, kp__law_value, b__law_value⟩ := okb__law_value (P := P) (w := w) (base := base) T
  refine ⟨f, fd, ?_, g, F.kp, bi⟩
  refine F.ok sc__law_changes (fun vs H Q E h => h.1) (fun cdv A outer s H vs Q E hr h => ?_)
  exact fin_P (mg := mg) (f := m__law_changes) (pss_cons (ps_set (i := 3) sc__law_changes.nd rfl (by first | exact Or.inl rfl | exact Or.inr rfl) (pe_lst pa_nil))
      (pss_cons (ps_set (i := 4) sc__law_changes.nd rfl (by first | exact Or.inl rfl | exact Or.inr rfl) (pe_cmpR op_ge (pe_call G__law_value (hr.mono (by omega)) (by rfl) g__law_value kp__law_value b__law_value .nil pass0 (pa_cons (pv 0) (pa_cons (pv 1) pa_nil))) pe_int (nomark _)))
      (pss_cons (ps_for PassesOwn.never rfl (pi_range2 (by rfl) T.m_range (pa_cons (pe_op op_add (pv 1) pe_int) (pa_cons (pe_op op_add (pv 2) pe_int) pa_nil))) (pg_name (i := 5) sc__law_changes.nd rfl (by first | exact Or.inl rfl | exact Or.inr rfl)) (pss_cons (ps_set (i := 6) sc__law_changes.nd rfl (by first | exact Or.inl rfl | exact Or.inr rfl) (pe_cmpR op_ge (pe_call G__law_value (hr.mono (by omega)) (by rfl) g__law_value kp__law_value b__law_value .nil pass0 (pa_cons (pv 0) (pa_cons (pv 5) pa_nil))) pe_int (nomark _)))
      (pss_cons (ps_if (pt_cmpR op_ne (pv 6) (pv 4) (nomark _)) (pss_one (ps_expr (pe_bm PySem.F.plainAttrs_list PySem.F.slot_list_append PySem.F.type_list_append mt_append (pv 3) (pa_cons (pe_tup (pa_cons (pv 5) (pa_cons (pe_ifExp (pt_val (pv 6)) pe_str pe_str) pa_nil))) pa_nil)))) pss_nil)
      (pss_one (ps_set (i := 4) sc__law_changes.nd rfl (by first | exact Or.inl rfl | exact Or.inr rfl) (pv 6))))))
      (pss_one (ps_ret (pv 3)))))) (shs_seq (shs_setO (shf_lst sha_nil (Nat.le_of_ble_eq_true rfl)))
  (shs_seq (shs_asg (shg_name 4) (sh_op Mi.s_ge (sh_call (sha_cons (sh_var 0) (sha_cons (sh_var 1) sha_nil)) rfl) (sh_int (0))))
  (shs_seq (shs_for (shi_rng2 (sha_cons (sh_op Mi.s_add (sh_var 1) (sh_int (1))) (sha_cons (sh_op Mi.s_add (sh_var 2) (sh_int (1))) sha_nil))) (shg_name 5) (shs_seq (shs_asg (shg_name 6) (sh_op Mi.s_ge (sh_call (sha_cons (sh_var 0) (sha_cons (sh_var 5) sha_nil)) rfl) (sh_int (0))))
  (shs_seq (shs_if (sht_test (sh_op Mi.s_ne (sh_var 6) (sh_var 4))) (shs_drop (sh_app (sh_tup (sha_cons (sh_var 5) (sha_cons (sh_if (sht_B (sh_var 6)) (sh_str "up") (sh_str "down")) sha_nil)) (Nat.le_of_ble_eq_true rfl)))) shs_next)
  (shs_asg (shg_name 4) (sh_var 6)))))
  (shs_ret (sh_var 3))))) h (by decide)
theorem ok_changes (T : Txt K mg) : ∃ (f : Addr) (fd : FuncData), FnOk P w K mg base CX0 91 f fd ["q", "start", "end"] (spP K mg 3 (runP 7 m_changes)) ∧ mg "changes" = some (.ref f) ∧ PySem.W.keepIn K (.ref f) = true ∧ L2.Binds K fd ["q", "start", "end"] [] := by
  obtain ⟨f, fd, F, g, bi⟩ := T.d_changes
  obtain ⟨f__scan, fd__scan, G__scan, g__scan, kp__scan, b__scan⟩ := okb__scan (P := P) (w := w) (base := base) T
  refine ⟨f, fd, ?_, g, F.kp, bi⟩
  refine F.ok sc_changes (fun vs H Q E h => h.1) (fun cdv A outer s H vs Q E hr h => ?_)
  exact fin_P (mg := mg) (f := m_changes) (pss_cons (ps_set (i := 3) sc_changes.nd rfl (by first | exact Or.inl rfl | exact Or.inr rfl) (pe_lst pa_nil))
      (pss_cons (ps_set (i := 4) sc_changes.nd rfl (by first | exact Or.inl rfl | exact Or.inr rfl) (pe_call G__scan (hr.mono (by omega)) (by rfl) g__scan kp__scan b__scan .nil pass0 (pa_cons (pv 0) (pa_cons (pv 1) (pa_cons (pv 2) pa_nil)))))
      (pss_cons (ps_for PassesOwn.never rfl (RZ.pi_zipA (by rfl) T.m_zip (pa_cons (pv 4) (pa_cons (pe_slice sl_list (pv 4) (po_some pe_int) po_none) pa_nil))) (pg_tup (by rfl) (pgs_cons (pg_name (i := 5) sc_changes.nd rfl (by first | exact Or.inl rfl | exact Or.inr rfl)) (pgs_cons (pg_name (i := 6) sc_changes.nd rfl (by first | exact Or.inl rfl | exact Or.inr rfl)) pgs_nil))) (pss_one (ps_if (pt_cmpR op_ne (pe_ix ix_tup (pv 6) pe_int (fun _ _ => rfl)) (pe_ix ix_tup (pv 5) pe_int (fun _ _ => rfl)) (nomark _)) (pss_one (ps_expr (pe_bm PySem.F.plainAttrs_list PySem.F.slot_list_append PySem.F.type_list_append mt_append (pv 3) (pa_cons (pe_tup (pa_cons (pe_ix ix_tup (pv 6) pe_int (fun _ _ => rfl)) (pa_cons (pe_ifExp (pt_val (pe_ix ix_tup (pv 6) pe_int (fun _ _ => rfl))) pe_str pe_str) pa_nil))) pa_nil)))) pss_nil)))
      (pss_one (ps_ret (pv 3)))))) (shs_seq (shs_setO (shf_lst sha_nil (Nat.le_of_ble_eq_true rfl)))
  (shs_seq (shs_asg (shg_name 4) (sh_call (sha_cons (sh_var 0) (sha_cons (sh_var 1) (sha_cons (sh_var 2) sha_nil))) rfl))
  (shs_seq (shs_for (shi_zipA (sha_cons (sh_var 4) (sha_cons (ShF.e (shf_slL (sh_var 4) (sho_some (sh_int (1))) sho_none)) sha_nil))) (shg_tup (shgs_cons (shg_name 5) (shgs_cons (shg_name 6) shgs_nil))) (shs_if (sht_test (sh_op Mi.s_ne (sh_op Mi.s_ixT (sh_var 6) (sh_int (2))) (sh_op Mi.s_ixT (sh_var 5) (sh_int (2))))) (shs_drop (sh_app (sh_tup (sha_cons (sh_op Mi.s_ixT (sh_var 6) (sh_int (0))) (sha_cons (sh_if (sht_B (sh_op Mi.s_ixT (sh_var 6) (sh_int (2)))) (sh_str "up") (sh_str "down")) sha_nil)) (Nat.le_of_ble_eq_true rfl)))) shs_next))
  (shs_ret (sh_var 3))))) h (by decide)
theorem ok_fine_moments (T : Txt K mg) : ∃ (f : Addr) (fd : FuncData), FnOk P w K mg base CX0 92 f fd ["q", "t", "m"] (spP K mg 3 (runP 5 m_fine_moments)) ∧ mg "fine_moments" = some (.ref f) ∧ PySem.W.keepIn K (.ref f) = true ∧ L2.Binds K fd ["q", "t", "m"] [] := by
  obtain ⟨f, fd, F, g, bi⟩ := T.d_fine_moments
  obtain ⟨f_changes, fd_changes, G_changes, g_changes, kp_changes, b_changes⟩ := ok_changes (P := P) (w := w) (base := base) T
  obtain ⟨f_finer, fd_finer, G_finer, g_finer, kp_finer, b_finer⟩ := ok_finer (P := P) (w := w) (base := base) T
  refine ⟨f, fd, ?_, g, F.kp, bi⟩
  refine F.ok sc_fine_moments (fun vs H Q E h => h.1) (fun cdv A outer s H vs Q E hr h => ?_)
  exact fin_P (mg := mg) (f := m_fine_moments) (pss_one (ps_ret (pe_lc (own := [("u", 3), ("_", 4)]) (g := gTup K 2 (gCons (gName 3) (gCons (gName 4) gNil))) (tt := tYes) (by rfl) sc_fine_moments.nd (pi_list (pe_call G_changes (hr.mono (by omega)) (by rfl) g_changes kp_changes b_changes .nil pass0 (pa_cons (pe_call G_finer (hr.mono (by omega)) (by rfl) g_finer kp_finer b_finer .nil pass0 (pa_cons (pv 0) (pa_cons (pv 2) pa_nil))) (pa_cons (pe_op op_mul (pv 2) (pe_op op_sub (pv 1) pe_int)) (pa_cons (pe_op op_mul (pv 2) (pv 1)) pa_nil))))) (blkOk_by (own := [("u", 3), ("_", 4)]) (N := ["q", "t", "m", "u", "_"]) (sc := defScope s_fine_moments) (by decide +kernel)) (fun _ _ _ _ _ => (pg_tup (by rfl) (pgs_cons (pg_name (i := 3) sc_fine_moments.nd rfl (by first | exact Or.inl rfl | exact Or.inr rfl)) (pgs_cons (pg_name (i := 4) sc_fine_moments.nd rfl (by first | exact Or.inl rfl | exact Or.inr rfl)) pgs_nil)))) (fun _ _ _ _ _ => pts_nil) (fun _ _ _ _ _ => (pv 3))))) (shs_ret (ShF.e (shf_lc (shi_list (sh_call (sha_cons (sh_call (sha_cons (sh_var 0) (sha_cons (sh_var 2) sha_nil)) rfl) (sha_cons (sh_op Mi.s_mul (sh_var 2) (sh_op Mi.s_sub (sh_var 1) (sh_int (1)))) (sha_cons (sh_op Mi.s_mul (sh_var 2) (sh_var 1)) sha_nil))) rfl)) (shg_tup (shgs_cons (shg_name 3) (shgs_cons (shg_name 4) shgs_nil))) (by decide) sht_yes (sh_var 3)))) h (by decide)
theorem ok_law_of {f : Addr} {fd : FuncData} (T : Txt K mg) (F : Fun K "law" "law" s_law f fd) (hf : ∀ ns : List Int, ns.length ≤ 63 → runP 12 m_law [scr ns] = .ok (.bool true)) : FnOk P w K mg base CX0 93 f fd ["script"] (Mi.spLaw K) := by
  obtain ⟨f__law_start, fd__law_start, G__law_start, g__law_start, kp__law_start, b__law_start⟩ := ok__law_start (P := P) (w := w) (base := base) T
  obtain ⟨f_finer, fd_finer, G_finer, g_finer, kp_finer, b_finer⟩ := ok_finer (P := P) (w := w) (base := base) T
  obtain ⟨f__law_series, fd__law_series, G__law_series, g__law_series, kp__law_series, b__law_series⟩ := ok__law_series (P := P) (w := w) (base := base) T
  obtain ⟨f__law_quantity, fd__law_quantity, G__law_quantity, g__law_quantity, kp__law_quantity, b__law_quantity⟩ := ok__law_quantity (P := P) (w := w) (base := base) T
  obtain ⟨f__law_draw, fd__law_draw, G__law_draw, g__law_draw, kp__law_draw, b__law_draw⟩ := ok__law_draw (P := P) (w := w) (base := base) T
  obtain ⟨f__law_finer, fd__law_finer, G__law_finer, g__law_finer, kp__law_finer, b__law_finer⟩ := ok__law_finer (P := P) (w := w) (base := base) T
  obtain ⟨f__law_changes, fd__law_changes, G__law_changes, g__law_changes, kp__law_changes, b__law_changes⟩ := ok__law_changes (P := P) (w := w) (base := base) T
  obtain ⟨f_fine_moments, fd_fine_moments, G_fine_moments, g_fine_moments, kp_fine_moments, b_fine_moments⟩ := ok_fine_moments (P := P) (w := w) (base := base) T
  obtain ⟨f__law_pick, fd__law_pick, G__law_pick, g__law_pick, kp__law_pick, b__law_pick⟩ := ok__law_pick (P := P) (w := w) (base := base) T
  obtain ⟨f__law_value, fd__law_value, G__law_value, g__law_value, kp__law_value, b__law_value⟩ := okb__law_value (P := P) (w := w) (base := base) T
  refine F.ok sc_law (fun vs H Q E h => by obtain ⟨a, ns, rfl, _⟩ := h; rfl) (fun cdv A outer s H vs Q E hr h => ?_)
  exact fin_law (mg := mg) (f := m_law) (pss_cons (ps_set (i := 1) sc_law.nd rfl (by first | exact Or.inl rfl | exact Or.inr rfl) (pe_call G__law_start (hr.mono (by omega)) (by rfl) g__law_start kp__law_start b__law_start .nil pass0 (pa_cons (pv 0) pa_nil)))
      (pss_cons (ps_set (i := 2) sc_law.nd rfl (by first | exact Or.inl rfl | exact Or.inr rfl) (pe_ifExp (pt_cmpR op_gt (pe_call G__law_draw (hr.mono (by omega)) (by rfl) g__law_draw kp__law_draw b__law_draw .nil pass0 (pa_cons (pv 1) (pa_cons pe_int pa_nil))) pe_int (nomark _)) (pe_call G__law_series (hr.mono (by omega)) (by rfl) g__law_series kp__law_series b__law_series .nil pass0 (pa_cons (pv 1) pa_nil)) (pe_call G__law_quantity (hr.mono (by omega)) (by rfl) g__law_quantity kp__law_quantity b__law_quantity .nil pass0 (pa_cons (pv 1) (pa_cons pe_int pa_nil)))))
      (pss_cons (ps_set (i := 3) sc_law.nd rfl (by first | exact Or.inl rfl | exact Or.inr rfl) (pe_op op_add pe_int (pe_call G__law_draw (hr.mono (by omega)) (by rfl) g__law_draw kp__law_draw b__law_draw .nil pass0 (pa_cons (pv 1) (pa_cons (pe_call G__law_pick (hr.mono (by omega)) (by rfl) g__law_pick kp__law_pick b__law_pick .nil pass0 (pa_cons (pv 1) (pa_cons (pe_lst (pa_cons pe_int (pa_cons pe_int (pa_cons pe_int pa_nil)))) pa_nil))) pa_nil)))))
      (pss_cons (ps_set (i := 4) sc_law.nd rfl (by first | exact Or.inl rfl | exact Or.inr rfl) (pe_call G_finer (hr.mono (by omega)) (by rfl) g_finer kp_finer b_finer .nil pass0 (pa_cons (pv 2) (pa_cons (pv 3) pa_nil))))
      (pss_cons (ps_if (pt_cmpR (op_neD hr.units) (pv 4) (pe_call G__law_finer (hr.mono (by omega)) (by rfl) g__law_finer kp__law_finer b__law_finer .nil pass0 (pa_cons (pv 2) (pa_cons (pv 3) pa_nil))) (nomark _)) (pss_one (ps_ret pe_bl)) pss_nil)
      (pss_cons (ps_for PassesOwn.never rfl (pi_range1 (by rfl) T.m_range (pa_cons pe_int pa_nil)) (pg_name (i := 5) sc_law.nd rfl (by first | exact Or.inl rfl | exact Or.inr rfl)) (pss_cons (ps_set (i := 6) sc_law.nd rfl (by first | exact Or.inl rfl | exact Or.inr rfl) (pe_op op_sub (pe_call G__law_draw (hr.mono (by omega)) (by rfl) g__law_draw kp__law_draw b__law_draw .nil pass0 (pa_cons (pv 1) (pa_cons pe_int pa_nil))) pe_int))
      (pss_one (ps_if (pt_cmpR op_ne (pe_call G__law_value (hr.mono (by omega)) (by rfl) g__law_value kp__law_value b__law_value .nil pass0 (pa_cons (pv 4) (pa_cons (pe_op op_mul (pv 3) (pv 6)) pa_nil))) (pe_call G__law_value (hr.mono (by omega)) (by rfl) g__law_value kp__law_value b__law_value .nil pass0 (pa_cons (pv 2) (pa_cons (pv 6) pa_nil))) (nomark _)) (pss_one (ps_ret pe_bl)) pss_nil))))
      (pss_cons (ps_set (i := 7) sc_law.nd rfl (by first | exact Or.inl rfl | exact Or.inr rfl) (pe_op op_sub (pe_call G__law_draw (hr.mono (by omega)) (by rfl) g__law_draw kp__law_draw b__law_draw .nil pass0 (pa_cons (pv 1) (pa_cons pe_int pa_nil))) pe_int))
      (pss_cons (ps_for PassesOwn.never rfl (pi_list (pe_slice sl_list (pe_call G__law_changes (hr.mono (by omega)) (by rfl) g__law_changes kp__law_changes b__law_changes .nil pass0 (pa_cons (pv 2) (pa_cons (pv 7) (pa_cons (pe_op op_add (pv 7) pe_int) pa_nil)))) po_none (po_some pe_int))) (pg_tup (by rfl) (pgs_cons (pg_name (i := 6) sc_law.nd rfl (by first | exact Or.inl rfl | exact Or.inr rfl)) (pgs_cons (pg_name (i := 8) sc_law.nd rfl (by first | exact Or.inl rfl | exact Or.inr rfl)) pgs_nil))) (pss_cons (ps_set (i := 9) sc_law.nd rfl (by first | exact Or.inl rfl | exact Or.inr rfl) (pe_call G_fine_moments (hr.mono (by omega)) (by rfl) g_fine_moments kp_fine_moments b_fine_moments .nil pass0 (pa_cons (pv 2) (pa_cons (pv 6) (pa_cons (pv 3) pa_nil)))))
      (pss_cons (ps_setLc (i := 10) (own := [("change", 11)]) (g := gName 11) (tt := tYes) (by rfl) sc_law.nd rfl rfl (sw_true rfl rfl rfl (by decide +kernel)) (pi_list (pe_call G__law_changes (hr.mono (by omega)) (by rfl) g__law_changes kp__law_changes b__law_changes .nil pass0 (pa_cons (pv 4) (pa_cons (pe_op op_mul (pv 3) (pe_op op_sub (pv 6) pe_int)) (pa_cons (pe_op op_mul (pv 3) (pv 6)) pa_nil))))) (blkOk_by (own := [("change", 11)]) (N := ["script", "state", "q", "m", "fine", "k", "t", "start", "side", "found", "due", "change"]) (sc := defScope s_law) (by decide +kernel)) (fun _ _ _ _ _ => (pg_name (i := 11) sc_law.nd rfl (by first | exact Or.inl rfl | exact Or.inr rfl))) (fun _ _ _ _ _ => pts_nil) (fun _ _ _ _ _ => (pe_ix (r := rIxT K) ix_tup (pv 11) pe_int (fun _ _ => rfl))))
      (pss_one (ps_if (PW.pt (pw_or (pt_not (pt_val (pe_callB call_isi (by rfl) T.m_isinstance (by decide +kernel) (pa_cons (pv 9) (pa_cons (pe_bltn (v := .ty "list") (by rfl) T.m_list (by decide +kernel) rfl) pa_nil))))) (pw_or (pt_cmpR (op_neD hr.units) (pv 9) (pv 10) (nomark _)) (pw_or1 (pt_cmpR op_ne (pe_op op_mod (pe_callTy call_int1 (by rfl) T.m_int (by decide +kernel) (pa_cons (pe_callB call_len_seq (by rfl) T.m_len (by decide +kernel) (pa_cons (pv 9) pa_nil)) pa_nil)) pe_int) pe_int (nomark _)))))) (pss_one (ps_ret pe_bl)) pss_nil)))))
      (pss_one (ps_ret pe_bl)))))))))) (shs_seq (shs_setO (shf_call (sha_cons (sh_var 0) sha_nil) rfl))
  (shs_seq (shs_asg (shg_name 2) (sh_if (sht_test (sh_op Mi.s_gt (sh_callI (sha_cons (sh_int (3)) sha_nil) rfl) (sh_int (0)))) (sh_callI sha_nil rfl) (sh_callI (sha_cons (sh_int (3)) sha_nil) rfl)))
  (shs_seq (shs_asg (shg_name 3) (sh_op Mi.s_add (sh_int (1)) (sh_callI (sha_cons (sh_callI (sha_cons (ShF.e (shf_lst (sha_cons (sh_int (2)) (sha_cons (sh_int (7)) (sha_cons (sh_int (40)) sha_nil))) (Nat.le_of_ble_eq_true rfl))) sha_nil) rfl) sha_nil) rfl)))
  (shs_seq (shs_asg (shg_name 4) (sh_call (sha_cons (sh_var 2) (sha_cons (sh_var 3) sha_nil)) rfl))
  (shs_seq (shs_if (sht_test (sh_op Mi.s_neD (sh_var 4) (sh_call (sha_cons (sh_var 2) (sha_cons (sh_var 3) sha_nil)) rfl))) (shs_ret (sh_bl false)) shs_next)
  (shs_seq (shs_for (shi_rng1 (sha_cons (sh_int (3)) sha_nil)) (shg_name 5) (shs_seq (shs_asg (shg_name 6) (sh_op Mi.s_sub (sh_callI (sha_cons (sh_int (20001)) sha_nil) rfl) (sh_int (10000))))
  (shs_if (sht_test (sh_op Mi.s_ne (sh_call (sha_cons (sh_var 4) (sha_cons (sh_op Mi.s_mul (sh_var 3) (sh_var 6)) sha_nil)) rfl) (sh_call (sha_cons (sh_var 2) (sha_cons (sh_var 6) sha_nil)) rfl))) (shs_ret (sh_bl false)) shs_next)))
  (shs_seq (shs_asg (shg_name 7) (sh_op Mi.s_sub (sh_callI (sha_cons (sh_int (2001)) sha_nil) rfl) (sh_int (1000))))
  (shs_seq (shs_for (shi_list (ShF.e (shf_slL (sh_call (sha_cons (sh_var 2) (sha_cons (sh_var 7) (sha_cons (sh_op Mi.s_add (sh_var 7) (sh_int (60))) sha_nil))) rfl) sho_none (sho_some (sh_int (2)))))) (shg_tup (shgs_cons (shg_name 6) (shgs_cons (shg_name 8) shgs_nil))) (shs_seq (shs_asg (shg_name 9) (sh_call (sha_cons (sh_var 2) (sha_cons (sh_var 6) (sha_cons (sh_var 3) sha_nil))) rfl))
  (shs_seq (shs_asg (shg_name 10) (ShF.e (shf_lc (shi_list (sh_call (sha_cons (sh_var 4) (sha_cons (sh_op Mi.s_mul (sh_var 3) (sh_op Mi.s_sub (sh_var 6) (sh_int (1)))) (sha_cons (sh_op Mi.s_mul (sh_var 3) (sh_var 6)) sha_nil))) rfl)) (shg_name 11) (by decide) sht_yes (sh_op Mi.s_ixT (sh_var 11) (sh_int (0))))))
  (shs_if (sht_or (sht_not (sht_B (sh_isi (sh_var 9)))) (sht_or (sht_test (sh_op Mi.s_neD (sh_var 9) (sh_var 10))) (sht_test (sh_op Mi.s_ne (sh_op Mi.s_mod (sh_cb cs_int (sha_cons (sh_cb cs_len (sha_cons (sh_var 9) sha_nil)) sha_nil)) (sh_int (2))) (sh_int (1)))))) (shs_ret (sh_bl false)) shs_next))))
  (shs_ret (sh_bl true)))))))))) h (by decide) hf
end
end K11

set_option Elab.async false
set_option linter.all false
set_option maxRecDepth 100000
namespace K11
open PySem hiding Env ret
open PySem.Spec PyProof.Rows L2 Mi
/-! the walk over mirrors -/
local macro_rules | `(tactic| walk_at "lk") => `(tactic| first | exact Mi.lk0 | exact Mi.lk1 | exact Mi.lk2 | exact Mi.lk3 | exact Mi.lk4 | exact Mi.lk5 | exact Mi.lk6 | exact Mi.lk7 | exact Mi.lk8 | exact Mi.lk9 | exact Mi.lk10 | exact Mi.lk11 | exact Mi.lk12 | exact Mi.lk13 | exact Mi.lk14 | exact Mi.lk15 | exact Mi.lk16 | exact Mi.lk17 | exact Mi.lk18 | exact Mi.lk19 | exact Mi.lk20 | exact Mi.lk21 | exact Mi.lk22 | exact Mi.lk23 | exact Mi.lk24 | exact Mi.lk25 | exact Mi.lk26 | exact Mi.lk27 | exact Mi.lk28 | exact Mi.lk29 | exact Mi.lk30 | exact Mi.lk31 | exact Mi.lk32 | exact Mi.lk33 | exact Mi.lk34 | exact Mi.lk35 | exact Mi.lk36 | exact Mi.lk37 | exact Mi.lk38 | exact Mi.lk39)
local macro_rules | `(tactic| walk_at "st") => `(tactic| first | with_reducible refine Mi.st0 ?_ | with_reducible refine Mi.st1 ?_ | with_reducible refine Mi.st2 ?_ | with_reducible refine Mi.st3 ?_ | with_reducible refine Mi.st4 ?_ | with_reducible refine Mi.st5 ?_ | with_reducible refine Mi.st6 ?_ | with_reducible refine Mi.st7 ?_ | with_reducible refine Mi.st8 ?_ | with_reducible refine Mi.st9 ?_ | with_reducible refine Mi.st10 ?_ | with_reducible refine Mi.st11 ?_ | with_reducible refine Mi.st12 ?_ | with_reducible refine Mi.st13 ?_ | with_reducible refine Mi.st14 ?_ | with_reducible refine Mi.st15 ?_ | with_reducible refine Mi.st16 ?_ | with_reducible refine Mi.st17 ?_ | with_reducible refine Mi.st18 ?_ | with_reducible refine Mi.st19 ?_ | with_reducible refine Mi.st20 ?_ | with_reducible refine Mi.st21 ?_ | with_reducible refine Mi.st22 ?_ | with_reducible refine Mi.st23 ?_ | with_reducible refine Mi.st24 ?_ | with_reducible refine Mi.st25 ?_ | with_reducible refine Mi.st26 ?_ | with_reducible refine Mi.st27 ?_ | with_reducible refine Mi.st28 ?_ | with_reducible refine Mi.st29 ?_ | with_reducible refine Mi.st30 ?_ | with_reducible refine Mi.st31 ?_ | with_reducible refine Mi.st32 ?_ | with_reducible refine Mi.st33 ?_ | with_reducible refine Mi.st34 ?_ | with_reducible refine Mi.st35 ?_ | with_reducible refine Mi.st36 ?_ | with_reducible refine Mi.st37 ?_ | with_reducible refine Mi.st38 ?_ | with_reducible refine Mi.st39 ?_)
local macro_rules | `(tactic| walk_at "at") => `(tactic| first | with_reducible assumption | exact Rd.at0 | exact Rd.at1 | exact Rd.at2 | exact Rd.at3 | exact Rd.at4)
local macro_rules | `(tactic| walk_at "side") => `(tactic| first | with_reducible assumption | omega | (constructor <;> omega) | (refine Or.inl ⟨?_, ?_⟩ <;> omega) | (refine Or.inr ⟨?_, ?_⟩ <;> omega) | (simp only [List.length_cons, List.length_nil, List.length_append, List.length_map]; omega) | ((refine ⟨⟨?_, ?_⟩, ?_, ?_⟩) <;> omega))
local macro_rules | `(tactic| walk_at "fn") => `(tactic| fail)
local macro_rules | `(tactic| walk_at "w1") => `(tactic| first
  | ((with_reducible show Mi.SatS _ _ _ _ _ _); (first | with_reducible refine Mi.w_seq ?_ | with_reducible refine Mi.w_retIf ?_ | with_reducible refine Mi.w_retX ?_ | with_reducible refine Mi.w_asgX ?_ | with_reducible refine Mi.w_dropX ?_ | with_reducible refine Mi.w_raise ?_ | with_reducible refine Mi.w_asg ?_ | with_reducible refine Mi.w_ifS ?_ | with_reducible refine Mi.w_drop ?_ | with_reducible refine Mi.w_ret ?_ | with_reducible refine Mi.w_next ?_ | with_reducible refine Mi.w_for ?_ | with_reducible refine Mi.w_retN ?_ | with_reducible refine Mi.w_brk ?_ | with_reducible refine Mi.w_cnt ?_ | with_reducible refine Mi.w_while ?_ | with_reducible refine Mi.w_setO ?_))
  | ((with_reducible show Mi.Sat _ _); (first | ((with_reducible apply Mi.w_val); (walk_at "lk")) | with_reducible refine Mi.w_c ?_ | with_reducible refine Mi.w_op ?_ | with_reducible refine Mi.w_call ?_ | with_reducible refine Mi.w_callI ?_ | with_reducible refine Mi.w_tup ?_ | with_reducible refine Mi.w_getV ?_ | with_reducible refine Mi.w_ixV ?_ | ((with_reducible apply Mi.w_pkv); (walk_at "lk")) | with_reducible refine Mi.w_peek ?_ | with_reducible refine Mi.w_cb ?_ | with_reducible refine Mi.w_lst ?_ | with_reducible refine Mi.w_un ?_ | ((with_reducible apply Mi.w_own); (walk_at "lk")) | with_reducible refine Mi.w_andV ?_ | with_reducible refine Mi.w_orV ?_ | with_reducible refine Mi.w_notV ?_ | with_reducible refine Mi.w_if ?_ | with_reducible refine Mi.w_chain ?_ | with_reducible refine Mi.w_sl ?_ | with_reducible refine Mi.w_get ?_ | with_reducible refine Mi.w_d0 ?_ | with_reducible refine Mi.w_dict ?_ | with_reducible refine Mi.w_tupS ?_ | with_reducible refine Mi.w_app ?_ | with_reducible refine Mi.w_lcw ?_ | ((with_reducible apply Mi.w_lenO); (walk_at "lk")) | ((with_reducible apply Mi.w_lenv); (walk_at "lk"))))
  | ((with_reducible show Mi.SatT _ _); (first | with_reducible refine Mi.w_B ?_ | with_reducible refine Mi.w_andT ?_ | with_reducible refine Mi.w_orT ?_ | with_reducible refine Mi.w_notT ?_ | with_reducible refine Mi.w_yes ?_))
  | ((with_reducible show Mi.SatA _ _); (first | with_reducible refine Mi.w_nil ?_ | with_reducible refine Mi.w_cons ?_ | with_reducible refine Mi.w_snil ?_ | with_reducible refine Mi.w_sone ?_ | with_reducible refine Mi.w_sstar ?_ | with_reducible refine Mi.w_r1 ?_ | with_reducible refine Mi.w_r2 ?_ | with_reducible refine Mi.w_itL1 ?_ | with_reducible refine Mi.w_itT1 ?_))
  | ((with_reducible show Mi.VAL _ _); (first | with_reducible apply Mi.v_add | with_reducible apply Mi.v_sub | with_reducible apply Mi.v_eqI | with_reducible apply Mi.v_lt | with_reducible apply Mi.v_le | with_reducible apply Mi.v_gt | with_reducible apply Mi.v_ge | with_reducible apply Mi.v_neI | ((with_reducible apply Mi.v_ixL); (walk_at "at")) | ((with_reducible apply Mi.v_ixT); (walk_at "at")) | ((with_reducible apply Mi.v_mul); (walk_at "side")) | ((with_reducible apply Mi.v_div); (walk_at "side")) | ((with_reducible apply Mi.v_mod); (walk_at "side")) | with_reducible apply Mi.v_neg | with_reducible apply Mi.v_eqS | with_reducible apply Mi.v_eqB | with_reducible apply Mi.v_neS | with_reducible apply Mi.v_neB | with_reducible apply Mi.v_eqNI | with_reducible apply Mi.v_neNI | with_reducible apply Mi.v_isN | with_reducible apply Mi.v_notN | with_reducible apply Mi.v_lenL | with_reducible apply Mi.v_lenT | with_reducible apply Mi.v_abs | with_reducible apply Mi.v_int | with_reducible apply Mi.v_intB | with_reducible apply Mi.v_min2 | with_reducible apply Mi.v_max2 | with_reducible apply Mi.v_tupL | with_reducible apply Mi.v_tupT | with_reducible apply Mi.v_lstL | with_reducible apply Mi.v_lstT | with_reducible apply Mi.v_slT | with_reducible apply Mi.v_slL | ((with_reducible apply Mi.v_pow); (decide)) | ((with_reducible apply Mi.v_catL); (walk_at "side")) | ((with_reducible apply Mi.v_catT); (walk_at "side")) | ((with_reducible apply Mi.v_divmod); (walk_at "side")) | walk_at "fn"))
  | ((with_reducible show Mi.IFV _ _ _); (first | with_reducible refine Mi.if_t ?_ | with_reducible refine Mi.if_f ?_ | with_reducible refine Mi.if_nt ?_ | with_reducible refine Mi.if_nf ?_ | with_reducible refine Mi.if_n1 ?_ | with_reducible refine Mi.if_n2 ?_ | with_reducible refine Mi.if_n3 ?_ | with_reducible refine Mi.if_n4 ?_ | with_reducible refine Mi.if_n5 ?_ | with_reducible refine Mi.if_n6 ?_))
  | ((with_reducible show Mi.SETS _ _); (first | walk_at "st" | (with_reducible refine Mi.put_own (by walk_at "lk") ?_) | (with_reducible refine Mi.put_io (by walk_at "lk") ?_)))
  | ((with_reducible show Mi.TG _ _); (first | ((with_reducible apply Mi.tg_n); (exact rfl)) | ((with_reducible apply Mi.tg_t); (exact rfl))))
  | ((with_reducible show Mi.TGS _ _); (first | with_reducible refine Mi.tgs_cons ?_ | with_reducible refine Mi.tgs_nil ?_))
  | ((with_reducible show Mi.LCB _ _ _); (with_reducible apply Mi.lcb); (exact rfl))
  | ((with_reducible show Mi.WIPE _ _); (first | with_reducible refine Mi.wp1 ?_ | with_reducible refine Mi.wp2 ?_ | ((with_reducible refine Mi.rs1 ?_ ?_); (walk_at "lk")) | ((with_reducible refine Mi.rs1v (d := ?_) ?_ ?_); (walk_at "lk")) | ((with_reducible refine Mi.rs2 ?_ ?_ ?_); (walk_at "lk"); (walk_at "lk"))))
  | ((with_reducible show Mi.SETO _ _ _ _); (with_reducible apply Mi.seto); (exact rfl))
  | with_reducible refine Mi.isl ?_
  | ((with_reducible show Mi.APP _ _ _ _ _); (with_reducible apply Mi.app_); (walk_at "side"))
  | ((with_reducible show Mi.LEQ _ _); (with_reducible apply Mi.leq); (walk_at "side"))
  | with_reducible refine Mi.isls ?_
  | with_reducible refine Mi.ists ?_
  | ((with_reducible show Mi.R1 _ _); (with_reducible apply Mi.r1_); (walk_at "side"))
  | ((with_reducible show Mi.R2 _ _); (with_reducible apply Mi.r2_); (walk_at "side"))
  | with_reducible refine Mi.prt ?_
  | with_reducible refine Mi.w_part ?_
  | with_reducible refine Mi.bl_ ?_
  | ((with_reducible show Mi.MU _ _); (with_reducible apply Mi.mu_own); (walk_at "lk"))
  | ((with_reducible show Mi.MU _ _); (with_reducible apply Mi.mu_io); (walk_at "lk"))
  | with_reducible refine Mi.dl_cons ?_
  | with_reducible refine Mi.dl_nil ?_
  | with_reducible refine Mi.w_none ?_
  | with_reducible refine Mi.io_of ?_
  | with_reducible refine Mi.w_itT ?_
  | with_reducible refine Mi.w_itL ?_
  | walk_at "fn")
local macro_rules | `(tactic| walk_at "w") => `(tactic| repeat (walk_at "w1"))
local macro_rules | `(tactic| walk_at "wd") => `(tactic| first
  | ((with_reducible refine Mi.if_p ?_ ?_); (first | with_reducible assumption | exact rfl | decide | omega))
  | ((with_reducible refine Mi.if_m ?_ ?_); (first | with_reducible assumption | exact rfl | decide | omega))
  | ((with_reducible refine Mi.if_np ?_ ?_); (first | with_reducible assumption | exact rfl | decide | omega))
  | ((with_reducible refine Mi.if_nm ?_ ?_); (first | with_reducible assumption | exact rfl | decide | omega)))
local macro_rules | `(tactic| walk_at "mo") => `(tactic| (walk_at "w"; (repeat (walk_at "wd"; walk_at "w"))))
local macro_rules | `(tactic| walk_at "env") => `(tactic| simp only [envP, envI, List.map_cons, List.map_nil, List.length_cons, List.length_nil, List.replicate, List.cons_append, List.nil_append, Nat.reduceAdd, Nat.reduceSub])

local macro_rules | `(tactic| walk_at "fn") => `(tactic| first | ((with_reducible show Mi.VAL _ _); (with_reducible apply Mi.t_left)) | ((with_reducible show Mi.Sat _ _); (with_reducible refine Mi.w_isiE ?_)) | ((with_reducible show Mi.Sat _ _); (with_reducible refine Mi.w_pkR ?_)) | ((with_reducible show Mi.Sat _ _); (with_reducible refine Mi.w_ext ?_)) | ((with_reducible show Mi.EXT _ _ _ _ _); (with_reducible apply Mi.ext_); (walk_at "side")) | ((with_reducible show Mi.SatA _ _); (with_reducible refine Mi.w_r3 ?_)) | ((with_reducible show Mi.Sat _ _); (first | with_reducible refine Mi.w_lr3 ?_ | with_reducible refine Mi.w_pop ?_ | with_reducible refine Mi.w_sj ?_ | with_reducible refine Mi.w_popAt ?_ | with_reducible refine Mi.w_lstS ?_)) | ((with_reducible show Mi.SatA _ _); (first | with_reducible refine Mi.w_enum ?_)) | ((with_reducible show Mi.TG _ _); (with_reducible apply Mi.tg_l); (exact rfl)) | ((with_reducible show Mi.EN _ _); (with_reducible refine Mi.en_ ?_)) | ((with_reducible show Mi.SJ _ _); (with_reducible apply Mi.sj_); (walk_at "side")))
def up (D : Den) (t : Int) : Bool := decide (0 ≤ D.val t)
def chg (D : Den) (s e : Int) : List Int := (rngI (s + 1) (e - s).toNat).filter fun t => up D t != up D (t - 1)
theorem mem_chg {D : Den} {s e t : Int} : t ∈ chg D s e ↔ (s < t ∧ t ≤ e) ∧ up D t ≠ up D (t - 1) := by
  unfold chg
  rw [List.mem_filter, mem_rngI, bne_iff_ne]
  constructor
  · rintro ⟨⟨h1, h2⟩, h3⟩; exact ⟨⟨by omega, by omega⟩, h3⟩
  · rintro ⟨⟨h1, h2⟩, h3⟩; exact ⟨⟨by omega, by omega⟩, h3⟩
theorem chg_pw (D : Den) (s e : Int) : (chg D s e).Pairwise (· < ·) := (rngI_pw _ _).filter _
def sideS (b : Bool) : D := .str (if b = true then "up" else "down")
def encC (D : Den) (t : Int) : PyData := .tuple [.int t, sideS (up D t)]
def zp (cs : List Cell) : List (Cell × Cell) := cs.zip (cs.drop 1)
theorem zp_snoc : ∀ (r : List Cell) (x c : Cell), zp (r ++ [x] ++ [c]) = zp (r ++ [x]) ++ [(x, c)]
  | [], x, c => rfl
  | [y], x, c => rfl
  | y :: z :: r, x, c => by
    have := zp_snoc (z :: r) x c
    show (y, z) :: zp (z :: r ++ [x] ++ [c]) = (y, z) :: (zp (z :: r ++ [x]) ++ [(x, c)])
    rw [this]
theorem zipD_map {α β : Type} (f : α → PyData) (g : β → PyData) : ∀ (xs : List α) (ys : List β), zipD (xs.map f) (ys.map g) = (xs.zip ys).map fun p => .tuple [f p.1, g p.2]
  | [], _ => rfl
  | _ :: _, [] => rfl
  | x :: xs, y :: ys => by
    show .tuple [f x, g y] :: zipD (xs.map f) (ys.map g) = _
    rw [zipD_map f g xs ys]
    rfl
def pcs (cs : List Cell) : List Int := ((zp cs).filter fun p => p.2.2.2 != p.1.2.2).map fun p => p.2.1
theorem cell_sign {n : Nat} {D : Den} (G : Good true n D) {t r k v : Int} (l : Longest D.far (limI (D.val t)) r k) (h1 : t ≤ v) (h2 : v ≤ t + k) : up D v = up D t := by
  obtain ⟨l0, l1, l2, _⟩ := l
  have s := G.sound v t (v - t) (by omega) (by omega)
  have m := G.fmono (v - t) k (by omega) (by omega)
  unfold up
  rw [decide_eq_decide]
  unfold limI at l2
  split at l2
  · constructor
    · intro _; assumption
    · intro _; omega
  · constructor
    · intro z; omega
    · intro z; omega
/-- the cells so far tell the changes so far -/
theorem scan_chg {n : Nat} {D : Den} (G : Good true n D) {e s : Int} {cs : List Cell} {u : Int} (h : ScanTo D e s cs u) : s ≤ u ∧ u ≤ max s (e + 1) ∧ ((cs = [] ∧ u = s) ∨ ∃ r x, cs = r ++ [x] ∧ s ≤ x.1 ∧ (∀ v, x.1 ≤ v → v < u → up D v = x.2.2) ∧ x.1 < u ∧ pcs cs = chg D s (u - 1)) := by
  induction h with
  | nil => exact ⟨Int.le_refl _, by omega, .inl ⟨rfl, rfl⟩⟩
  | @snoc cs t k h ht l ih =>
    obtain ⟨h1, h2, h3⟩ := ih
    have l0 := l.1
    have l1 := l.2.1
    have sg : ∀ v, t ≤ v → v < t + k + 1 → up D v = decide (0 ≤ D.val t) := fun v a b => cell_sign G l a (by omega)
    refine ⟨by omega, by omega, .inr ⟨cs, _, rfl, h1, sg, by show t < t + k + 1; omega, ?_⟩⟩
    have chg_one : ∀ a : Int, (∀ v, t < v → v ≤ t + k → up D v = up D (v - 1)) := fun a v b c => by rw [sg v (by omega) (by omega), sg (v - 1) (by omega) (by omega)]
    rcases h3 with ⟨rfl, rfl⟩ | ⟨r, x, rfl, hsx, hx, hxu, hp⟩
    · show pcs [(t, k, decide (0 ≤ D.val t))] = _
      refine asc_ext .nil (chg_pw D t _) fun z => ⟨fun q => (by cases q), fun q => ?_⟩
      obtain ⟨⟨a, b⟩, c⟩ := mem_chg.mp q
      exact absurd (chg_one 0 z a (by omega)) c
    · have e1 : pcs (r ++ [x] ++ [(t, k, decide (0 ≤ D.val t))]) = pcs (r ++ [x]) ++ (if (decide (0 ≤ D.val t)) != x.2.2 then [t] else []) := by
        unfold pcs
        rw [zp_snoc, List.filter_append, List.map_append, List.filter_cons, List.filter_nil]
        dsimp only
        cases (decide (0 ≤ D.val t) != x.2.2) <;> rfl
      rw [e1, hp]
      have bx : x.2.2 = up D (t - 1) := (hx (t - 1) (by omega) (by omega)).symm
      have bt : decide (0 ≤ D.val t) = up D t := rfl
      rw [bx, bt]
      refine asc_ext ?_ (chg_pw D s _) fun z => ?_
      · rw [List.pairwise_append]
        refine ⟨chg_pw D s _, ?_, fun a ha b hb => ?_⟩
        · split
          · exact List.pairwise_singleton ..
          · exact .nil
        · obtain ⟨⟨_, c⟩, _⟩ := mem_chg.mp ha
          split at hb
          · rw [List.mem_singleton] at hb; omega
          · cases hb
      · rw [List.mem_append, mem_chg, mem_chg]
        constructor
        · rintro (⟨⟨a, b⟩, c⟩ | q)
          · exact ⟨⟨a, by omega⟩, c⟩
          · split at q
            · rename_i w
              rw [List.mem_singleton] at q
              subst q
              rw [bne_iff_ne] at w
              have : s < z := by
                rcases Int.lt_or_le s z with l | l
                · exact l
                · have q1 : x.1 < z := hxu
                  omega
              exact ⟨⟨this, by omega⟩, w⟩
            · cases q
        · rintro ⟨⟨a, b⟩, c⟩
          rcases Int.lt_trichotomy z t with l | l | l
          · exact .inl ⟨⟨a, by omega⟩, c⟩
          · subst l
            right
            rw [if_pos (bne_iff_ne.mpr c)]
            exact List.mem_singleton.mpr rfl
          · exact absurd (chg_one 0 z l (by omega)) c
theorem scan_done {n : Nat} {D : Den} (G : Good true n D) {e s : Int} {cs : List Cell} (h : IsScan D s e cs) (hs : s ≤ e) : pcs cs = chg D s e := by
  obtain ⟨u, sc, lt⟩ := h
  obtain ⟨h1, h2, h3⟩ := scan_chg G sc
  rcases h3 with ⟨_, rfl⟩ | ⟨r, x, _, _, _, _, hp⟩
  · omega
  · rw [hp, show u - 1 = e by omega]
theorem scan_len {D : Den} {e s : Int} {cs : List Cell} (h : IsScan D s e cs) (hs : s ≤ e + 1) : (cs.length : Int) ≤ e + 1 - s := by
  obtain ⟨u, sc, lt⟩ := h
  have := sc.len hs
  omega
theorem chg_len (D : Den) {s e : Int} (hs : s ≤ e) : ((chg D s e).length : Int) ≤ e - s := by
  have := List.length_filter_le (fun t => up D t != up D (t - 1)) (rngI (s + 1) (e - s).toNat)
  rw [rngI_len] at this
  unfold chg
  omega
theorem v_ixc0 {c : Cell} {Q : PyData → Prop} (q : Q (.int c.1)) : VAL (fIxT (cellD c) (.int 0)) Q := ⟨_, rfl, q⟩
theorem v_ixc2 {c : Cell} {Q : PyData → Prop} (q : Q (.bool c.2.2)) : VAL (fIxT (cellD c) (.int 2)) Q := ⟨_, rfl, q⟩
theorem zp_len (cs : List Cell) : (zp cs).length ≤ cs.length := by
  unfold zp
  rw [List.length_zip]
  omega
theorem side_t {D : Den} {t : Int} {b : Bool} (h : up D t = b) : encC D t = .tuple [.int t, .str (if b = true then "up" else "down")] := by
  unfold encC sideS
  rw [h]
/-- each kept pair tells its own sign -/
theorem scan_sign {D : Den} {e s : Int} {cs : List Cell} {u : Int} (h : ScanTo D e s cs u) : ∀ c ∈ cs, c.2.2 = up D c.1 := by
  induction h with
  | nil => intro c hc; cases hc
  | snoc h ht l ih =>
    intro c hc
    rcases List.mem_append.mp hc with hc | hc
    · exact ih c hc
    · rw [List.mem_singleton] at hc
      subst hc
      rfl
theorem zp_mem {cs : List Cell} {p : Cell × Cell} (h : p ∈ zp cs) : p.1 ∈ cs ∧ p.2 ∈ cs := by
  obtain ⟨a, b⟩ := p
  have := List.of_mem_zip h
  exact ⟨this.1, List.mem_of_mem_drop this.2⟩
set_option maxHeartbeats 8000000 in
theorem changes_go {d : PyData} {s e : Int} {D : Den} {Q : PyData → Prop} (h : ScanOk d s e D) (hs : s ≤ e) (q : Q (.list ((chg D s e).map (encC D)))) : SatP (runP 7 m_changes [d, .int s, .int e]) Q := by
  refine run_P ?_
  walk_at "env"
  unfold m_changes
  walk_at "mo"
  refine scanD_go h fun cs hcs => ?_
  have G := h.1.good
  have hl := scan_len hcs (by omega)
  have h5 := h.2.2.2.2
  have hz := zp_len cs
  rw [← scan_done G hcs hs] at q
  have hb : ∀ c ∈ cs, c.2.2 = up D c.1 := by
    obtain ⟨u, sc, _⟩ := hcs
    exact scan_sign sc
  walk_at "mo"
  refine w_z ?_
  walk_at "mo"
  rw [cut_from1]
  refine ⟨_, _, .inl rfl, ?_⟩
  have ez : zipD (cs.map cellD) ((cs.map cellD).drop 1) = (zp cs).map fun p => .tuple [cellD p.1, cellD p.2] := by
    rw [← List.map_drop]
    exact zipD_map cellD cellD cs (cs.drop 1)
  have h0 : ∃ x5 x6, ([.val d, .val (.int s), .val (.int e), .own (.list []), .val (.list (cs.map cellD)), .no, .no] : Mi.Env) = [.val d, .val (.int s), .val (.int e), .own (.list (((([] : List (Cell × Cell)).filter fun p => p.2.2.2 != p.1.2.2).map fun p => p.2.1).map (encC D))), .val (.list (cs.map cellD)), x5, x6] ∧ notIo [x5] 0 = true ∧ notIo [x6] 0 = true := ⟨_, _, rfl, rfl, rfl⟩
  with_reducible refine for_pre (zp cs) (fun p => .tuple [cellD p.1, cellD p.2]) ez (fun pre ρ => ∃ x5 x6, ρ = [.val d, .val (.int s), .val (.int e), .own (.list (((pre.filter fun p => p.2.2.2 != p.1.2.2).map fun p => p.2.1).map (encC D))), .val (.list (cs.map cellD)), x5, x6] ∧ notIo [x5] 0 = true ∧ notIo [x6] 0 = true) h0 (fun pre p post ρ eq hI => ?_) (fun ρ hI => ?_)
  · obtain ⟨x5, x6, rfl, i5, i6⟩ := hI
    have pm : p ∈ zp cs := by rw [eq]; simp
    have pl : pre.length ≤ 901 := by
      have := congrArg List.length eq
      rw [List.length_append, List.length_cons] at this
      omega
    have fl := List.length_filter_le (fun p : Cell × Cell => p.2.2.2 != p.1.2.2) pre
    walk_at "mo"
    refine tg_n i5 ?_
    walk_at "mo"
    refine tg_n i6 ?_
    walk_at "mo"
    refine v_ixc2 ?_
    walk_at "mo"
    refine v_ixc2 ?_
    walk_at "mo"
    have sb := hb _ (zp_mem pm).2
    have done : ∀ (y : PyData), y = encC D p.2.1 → (p.2.2.2 != p.1.2.2) = true → ∃ x5 x6, ([.val d, .val (.int s), .val (.int e), .own (.list (((pre.filter fun p => p.2.2.2 != p.1.2.2).map fun p => p.2.1).map (encC D) ++ [y])), .val (.list (cs.map cellD)), .val (cellD p.1), .val (cellD p.2)] : Mi.Env) = [.val d, .val (.int s), .val (.int e), .own (.list ((((pre ++ [p]).filter fun p => p.2.2.2 != p.1.2.2).map fun p => p.2.1).map (encC D))), .val (.list (cs.map cellD)), x5, x6] ∧ notIo [x5] 0 = true ∧ notIo [x6] 0 = true := fun y hy c => by
      refine ⟨.val (cellD p.1), .val (cellD p.2), ?_, rfl, rfl⟩
      rw [List.filter_append, List.map_append, List.map_append, List.filter_cons, if_pos c, hy]
      rfl
    refine if_split (fun g => ?_) (fun g => ?_)
    · have g' : (p.2.2.2 != p.1.2.2) = true := by
        rw [bne_iff_ne]
        intro z
        rw [z] at g
        simp at g
      walk_at "mo"
      refine v_ixc0 ?_
      walk_at "mo"
      refine v_ixc2 ?_
      walk_at "mo"
      refine if_split (fun b => ?_) (fun b => ?_)
      · walk_at "mo"
        exact done _ (by rw [side_t (sb.symm.trans b)]; rfl) g'
      · walk_at "mo"
        exact done _ (by rw [side_t (sb.symm.trans b)]; rfl) g'
    · have g' : (p.2.2.2 != p.1.2.2) = false := by
        rw [bne_eq_false_iff_eq]
        simpa using g
      walk_at "mo"
      refine ⟨.val (cellD p.1), .val (cellD p.2), ?_, rfl, rfl⟩
      rw [List.filter_append, List.filter_cons, if_neg (by rw [g']; exact Bool.false_ne_true), List.filter_nil, List.append_nil]
  · obtain ⟨x5, x6, rfl, i5, i6⟩ := hI
    walk_at "mo"
    exact q
theorem chg_snoc {D : Den} {s t : Int} (h : s < t) : chg D s t = chg D s (t - 1) ++ (if up D t != up D (t - 1) then [t] else []) := by
  unfold chg
  rw [show (t - s).toNat = (t - 1 - s).toNat + 1 by omega, rngI_succ, List.filter_append, List.filter_cons, List.filter_nil, show s + 1 + (((t - 1 - s).toNat : Nat) : Int) = t by omega]
set_option maxHeartbeats 8000000 in
theorem lchanges_go {d : PyData} {s e : Int} {D : Den} {Q : PyData → Prop} (h : EX 20 true d D) (hs : s ≤ e) (hb : -1000000 ≤ s ∧ e ≤ 1000000) (q : Q (.list ((chg D s e).map (encC D)))) : SatP (runP 7 m__law_changes [d, .int s, .int e]) Q := by
  refine run_P ?_
  walk_at "env"
  unfold m__law_changes
  walk_at "mo"
  refine valD_go h ?_
  walk_at "mo"
  rw [show decide (0 ≤ D.val s) = up D s from rfl]
  have h0 : ∃ x5 x6, ([.val d, .val (.int s), .val (.int e), .own (.list []), .val (.bool (up D s)), .no, .no] : Mi.Env) = [.val d, .val (.int s), .val (.int e), .own (.list ((chg D s (s + ((0 : Nat) : Int))).map (encC D))), .val (.bool (up D (s + ((0 : Nat) : Int)))), x5, x6] ∧ notIo [x5] 0 = true ∧ notIo [x6] 0 = true := ⟨.no, .no, by
    rw [show s + ((0 : Nat) : Int) = s by simp]
    unfold chg
    rw [Int.sub_self]
    rfl, rfl, rfl⟩
  with_reducible refine for_inv (fun i ρ => ∃ x5 x6, ρ = [.val d, .val (.int s), .val (.int e), .own (.list ((chg D s (s + (i : Int))).map (encC D))), .val (.bool (up D (s + (i : Int)))), x5, x6] ∧ notIo [x5] 0 = true ∧ notIo [x6] 0 = true) h0 (fun i x ρ hx hI => ?_) (fun ρ hI => ?_)
  · obtain ⟨x5, x6, rfl, i5, i6⟩ := hI
    obtain ⟨hi, rfl⟩ := rngD_get hx
    have cl := chg_len D (s := s) (e := s + (i : Int)) (by omega)
    refine tg_n i5 ?_
    walk_at "mo"
    refine valD_go h ?_
    walk_at "mo"
    refine tg_n i6 ?_
    walk_at "mo"
    rw [show s + 1 + (i : Int) = s + ((i + 1 : Nat) : Int) by omega]
    have sn := chg_snoc (D := D) (s := s) (t := s + ((i + 1 : Nat) : Int)) (by omega)
    rw [show s + ((i + 1 : Nat) : Int) - 1 = s + (i : Int) by omega] at sn
    rw [sn]
    rw [show decide (0 ≤ D.val (s + ((i + 1 : Nat) : Int))) = up D (s + ((i + 1 : Nat) : Int)) from rfl]
    generalize s + ((i + 1 : Nat) : Int) = t at *
    have done : ∀ (y : PyData), y = encC D t → (up D t != up D (s + (i : Int))) = true → ∃ x5 x6, ([.val d, .val (.int s), .val (.int e), .own (.list ((chg D s (s + (i : Int))).map (encC D) ++ [y])), .val (.bool (up D t)), .val (.int t), .val (.bool (up D t))] : Mi.Env) = [.val d, .val (.int s), .val (.int e), .own (.list ((chg D s (s + (i : Int)) ++ (if up D t != up D (s + (i : Int)) then [t] else [])).map (encC D))), .val (.bool (up D t)), x5, x6] ∧ notIo [x5] 0 = true ∧ notIo [x6] 0 = true := fun y hy c => by
      refine ⟨.val (.int t), .val (.bool (up D t)), ?_, rfl, rfl⟩
      rw [if_pos c, List.map_append, hy]
      rfl
    refine if_split (fun g => ?_) (fun g => ?_)
    · have g' : (up D t != up D (s + (i : Int))) = true := by
        rw [bne_iff_ne]
        intro z
        rw [z] at g
        simp at g
      walk_at "mo"
      refine if_split (fun b => ?_) (fun b => ?_)
      · walk_at "mo"
        have := done (.tuple [.int t, .str "up"]) (by rw [side_t b]; rfl) g'
        exact this
      · walk_at "mo"
        have := done (.tuple [.int t, .str "down"]) (by rw [side_t b]; rfl) g'
        exact this
    · have g' : (up D t != up D (s + (i : Int))) = false := by
        rw [bne_eq_false_iff_eq]
        simpa using g
      walk_at "mo"
      refine ⟨.val (.int t), .val (.bool (up D t)), ?_, rfl, rfl⟩
      rw [if_neg (by rw [g']; exact Bool.false_ne_true), List.append_nil]
  · obtain ⟨x5, x6, rfl, i5, i6⟩ := hI
    rw [rngD_len, show s + (((e + 1 - (s + 1)).toNat : Nat) : Int) = e by omega]
    walk_at "mo"
    exact q

end K11

set_option Elab.async false
set_option linter.all false
set_option maxRecDepth 100000
namespace K11
open PySem hiding Env ret
open PySem.Spec PyProof.Rows L2 Mi
/-! the walk over mirrors -/
local macro_rules | `(tactic| walk_at "lk") => `(tactic| first | exact Mi.lk0 | exact Mi.lk1 | exact Mi.lk2 | exact Mi.lk3 | exact Mi.lk4 | exact Mi.lk5 | exact Mi.lk6 | exact Mi.lk7 | exact Mi.lk8 | exact Mi.lk9 | exact Mi.lk10 | exact Mi.lk11 | exact Mi.lk12 | exact Mi.lk13 | exact Mi.lk14 | exact Mi.lk15 | exact Mi.lk16 | exact Mi.lk17 | exact Mi.lk18 | exact Mi.lk19 | exact Mi.lk20 | exact Mi.lk21 | exact Mi.lk22 | exact Mi.lk23 | exact Mi.lk24 | exact Mi.lk25 | exact Mi.lk26 | exact Mi.lk27 | exact Mi.lk28 | exact Mi.lk29 | exact Mi.lk30 | exact Mi.lk31 | exact Mi.lk32 | exact Mi.lk33 | exact Mi.lk34 | exact Mi.lk35 | exact Mi.lk36 | exact Mi.lk37 | exact Mi.lk38 | exact Mi.lk39)
local macro_rules | `(tactic| walk_at "st") => `(tactic| first | with_reducible refine Mi.st0 ?_ | with_reducible refine Mi.st1 ?_ | with_reducible refine Mi.st2 ?_ | with_reducible refine Mi.st3 ?_ | with_reducible refine Mi.st4 ?_ | with_reducible refine Mi.st5 ?_ | with_reducible refine Mi.st6 ?_ | with_reducible refine Mi.st7 ?_ | with_reducible refine Mi.st8 ?_ | with_reducible refine Mi.st9 ?_ | with_reducible refine Mi.st10 ?_ | with_reducible refine Mi.st11 ?_ | with_reducible refine Mi.st12 ?_ | with_reducible refine Mi.st13 ?_ | with_reducible refine Mi.st14 ?_ | with_reducible refine Mi.st15 ?_ | with_reducible refine Mi.st16 ?_ | with_reducible refine Mi.st17 ?_ | with_reducible refine Mi.st18 ?_ | with_reducible refine Mi.st19 ?_ | with_reducible refine Mi.st20 ?_ | with_reducible refine Mi.st21 ?_ | with_reducible refine Mi.st22 ?_ | with_reducible refine Mi.st23 ?_ | with_reducible refine Mi.st24 ?_ | with_reducible refine Mi.st25 ?_ | with_reducible refine Mi.st26 ?_ | with_reducible refine Mi.st27 ?_ | with_reducible refine Mi.st28 ?_ | with_reducible refine Mi.st29 ?_ | with_reducible refine Mi.st30 ?_ | with_reducible refine Mi.st31 ?_ | with_reducible refine Mi.st32 ?_ | with_reducible refine Mi.st33 ?_ | with_reducible refine Mi.st34 ?_ | with_reducible refine Mi.st35 ?_ | with_reducible refine Mi.st36 ?_ | with_reducible refine Mi.st37 ?_ | with_reducible refine Mi.st38 ?_ | with_reducible refine Mi.st39 ?_)
local macro_rules | `(tactic| walk_at "at") => `(tactic| first | with_reducible assumption | exact Rd.at0 | exact Rd.at1 | exact Rd.at2 | exact Rd.at3 | exact Rd.at4)
local macro_rules | `(tactic| walk_at "side") => `(tactic| first | with_reducible assumption | omega | (constructor <;> omega) | (refine Or.inl ⟨?_, ?_⟩ <;> omega) | (refine Or.inr ⟨?_, ?_⟩ <;> omega) | (simp only [List.length_cons, List.length_nil, List.length_append, List.length_map]; omega) | ((refine ⟨⟨?_, ?_⟩, ?_, ?_⟩) <;> omega))
local macro_rules | `(tactic| walk_at "fn") => `(tactic| fail)
local macro_rules | `(tactic| walk_at "w1") => `(tactic| first
  | ((with_reducible show Mi.SatS _ _ _ _ _ _); (first | with_reducible refine Mi.w_seq ?_ | with_reducible refine Mi.w_retIf ?_ | with_reducible refine Mi.w_retX ?_ | with_reducible refine Mi.w_asgX ?_ | with_reducible refine Mi.w_dropX ?_ | with_reducible refine Mi.w_raise ?_ | with_reducible refine Mi.w_asg ?_ | with_reducible refine Mi.w_ifS ?_ | with_reducible refine Mi.w_drop ?_ | with_reducible refine Mi.w_ret ?_ | with_reducible refine Mi.w_next ?_ | with_reducible refine Mi.w_for ?_ | with_reducible refine Mi.w_retN ?_ | with_reducible refine Mi.w_brk ?_ | with_reducible refine Mi.w_cnt ?_ | with_reducible refine Mi.w_while ?_ | with_reducible refine Mi.w_setO ?_))
  | ((with_reducible show Mi.Sat _ _); (first | ((with_reducible apply Mi.w_val); (walk_at "lk")) | with_reducible refine Mi.w_c ?_ | with_reducible refine Mi.w_op ?_ | with_reducible refine Mi.w_call ?_ | with_reducible refine Mi.w_callI ?_ | with_reducible refine Mi.w_tup ?_ | with_reducible refine Mi.w_getV ?_ | with_reducible refine Mi.w_ixV ?_ | ((with_reducible apply Mi.w_pkv); (walk_at "lk")) | with_reducible refine Mi.w_peek ?_ | with_reducible refine Mi.w_cb ?_ | with_reducible refine Mi.w_lst ?_ | with_reducible refine Mi.w_un ?_ | ((with_reducible apply Mi.w_own); (walk_at "lk")) | with_reducible refine Mi.w_andV ?_ | with_reducible refine Mi.w_orV ?_ | with_reducible refine Mi.w_notV ?_ | with_reducible refine Mi.w_if ?_ | with_reducible refine Mi.w_chain ?_ | with_reducible refine Mi.w_sl ?_ | with_reducible refine Mi.w_get ?_ | with_reducible refine Mi.w_d0 ?_ | with_reducible refine Mi.w_dict ?_ | with_reducible refine Mi.w_tupS ?_ | with_reducible refine Mi.w_app ?_ | with_reducible refine Mi.w_lcw ?_ | ((with_reducible apply Mi.w_lenO); (walk_at "lk")) | ((with_reducible apply Mi.w_lenv); (walk_at "lk"))))
  | ((with_reducible show Mi.SatT _ _); (first | with_reducible refine Mi.w_B ?_ | with_reducible refine Mi.w_andT ?_ | with_reducible refine Mi.w_orT ?_ | with_reducible refine Mi.w_notT ?_ | with_reducible refine Mi.w_yes ?_))
  | ((with_reducible show Mi.SatA _ _); (first | with_reducible refine Mi.w_nil ?_ | with_reducible refine Mi.w_cons ?_ | with_reducible refine Mi.w_snil ?_ | with_reducible refine Mi.w_sone ?_ | with_reducible refine Mi.w_sstar ?_ | with_reducible refine Mi.w_r1 ?_ | with_reducible refine Mi.w_r2 ?_ | with_reducible refine Mi.w_itL1 ?_ | with_reducible refine Mi.w_itT1 ?_))
  | ((with_reducible show Mi.VAL _ _); (first | with_reducible apply Mi.v_add | with_reducible apply Mi.v_sub | with_reducible apply Mi.v_eqI | with_reducible apply Mi.v_lt | with_reducible apply Mi.v_le | with_reducible apply Mi.v_gt | with_reducible apply Mi.v_ge | with_reducible apply Mi.v_neI | ((with_reducible apply Mi.v_ixL); (walk_at "at")) | ((with_reducible apply Mi.v_ixT); (walk_at "at")) | ((with_reducible apply Mi.v_mul); (walk_at "side")) | ((with_reducible apply Mi.v_div); (walk_at "side")) | ((with_reducible apply Mi.v_mod); (walk_at "side")) | with_reducible apply Mi.v_neg | with_reducible apply Mi.v_eqS | with_reducible apply Mi.v_eqB | with_reducible apply Mi.v_neS | with_reducible apply Mi.v_neB | with_reducible apply Mi.v_eqNI | with_reducible apply Mi.v_neNI | with_reducible apply Mi.v_isN | with_reducible apply Mi.v_notN | with_reducible apply Mi.v_lenL | with_reducible apply Mi.v_lenT | with_reducible apply Mi.v_abs | with_reducible apply Mi.v_int | with_reducible apply Mi.v_intB | with_reducible apply Mi.v_min2 | with_reducible apply Mi.v_max2 | with_reducible apply Mi.v_tupL | with_reducible apply Mi.v_tupT | with_reducible apply Mi.v_lstL | with_reducible apply Mi.v_lstT | with_reducible apply Mi.v_slT | with_reducible apply Mi.v_slL | ((with_reducible apply Mi.v_pow); (decide)) | ((with_reducible apply Mi.v_catL); (walk_at "side")) | ((with_reducible apply Mi.v_catT); (walk_at "side")) | ((with_reducible apply Mi.v_divmod); (walk_at "side")) | walk_at "fn"))
  | ((with_reducible show Mi.IFV _ _ _); (first | with_reducible refine Mi.if_t ?_ | with_reducible refine Mi.if_f ?_ | with_reducible refine Mi.if_nt ?_ | with_reducible refine Mi.if_nf ?_ | with_reducible refine Mi.if_n1 ?_ | with_reducible refine Mi.if_n2 ?_ | with_reducible refine Mi.if_n3 ?_ | with_reducible refine Mi.if_n4 ?_ | with_reducible refine Mi.if_n5 ?_ | with_reducible refine Mi.if_n6 ?_))
  | ((with_reducible show Mi.SETS _ _); (first | walk_at "st" | (with_reducible refine Mi.put_own (by walk_at "lk") ?_) | (with_reducible refine Mi.put_io (by walk_at "lk") ?_)))
  | ((with_reducible show Mi.TG _ _); (first | ((with_reducible apply Mi.tg_n); (exact rfl)) | ((with_reducible apply Mi.tg_t); (exact rfl))))
  | ((with_reducible show Mi.TGS _ _); (first | with_reducible refine Mi.tgs_cons ?_ | with_reducible refine Mi.tgs_nil ?_))
  | ((with_reducible show Mi.LCB _ _ _); (with_reducible apply Mi.lcb); (exact rfl))
  | ((with_reducible show Mi.WIPE _ _); (first | with_reducible refine Mi.wp1 ?_ | with_reducible refine Mi.wp2 ?_ | ((with_reducible refine Mi.rs1 ?_ ?_); (walk_at "lk")) | ((with_reducible refine Mi.rs1v (d := ?_) ?_ ?_); (walk_at "lk")) | ((with_reducible refine Mi.rs2 ?_ ?_ ?_); (walk_at "lk"); (walk_at "lk"))))
  | ((with_reducible show Mi.SETO _ _ _ _); (with_reducible apply Mi.seto); (exact rfl))
  | with_reducible refine Mi.isl ?_
  | ((with_reducible show Mi.APP _ _ _ _ _); (with_reducible apply Mi.app_); (walk_at "side"))
  | ((with_reducible show Mi.LEQ _ _); (with_reducible apply Mi.leq); (walk_at "side"))
  | with_reducible refine Mi.isls ?_
  | with_reducible refine Mi.ists ?_
  | ((with_reducible show Mi.R1 _ _); (with_reducible apply Mi.r1_); (walk_at "side"))
  | ((with_reducible show Mi.R2 _ _); (with_reducible apply Mi.r2_); (walk_at "side"))
  | with_reducible refine Mi.prt ?_
  | with_reducible refine Mi.w_part ?_
  | with_reducible refine Mi.bl_ ?_
  | ((with_reducible show Mi.MU _ _); (with_reducible apply Mi.mu_own); (walk_at "lk"))
  | ((with_reducible show Mi.MU _ _); (with_reducible apply Mi.mu_io); (walk_at "lk"))
  | with_reducible refine Mi.dl_cons ?_
  | with_reducible refine Mi.dl_nil ?_
  | with_reducible refine Mi.w_none ?_
  | with_reducible refine Mi.io_of ?_
  | with_reducible refine Mi.w_itT ?_
  | with_reducible refine Mi.w_itL ?_
  | walk_at "fn")
local macro_rules | `(tactic| walk_at "w") => `(tactic| repeat (walk_at "w1"))
local macro_rules | `(tactic| walk_at "wd") => `(tactic| first
  | ((with_reducible refine Mi.if_p ?_ ?_); (first | with_reducible assumption | exact rfl | decide | omega))
  | ((with_reducible refine Mi.if_m ?_ ?_); (first | with_reducible assumption | exact rfl | decide | omega))
  | ((with_reducible refine Mi.if_np ?_ ?_); (first | with_reducible assumption | exact rfl | decide | omega))
  | ((with_reducible refine Mi.if_nm ?_ ?_); (first | with_reducible assumption | exact rfl | decide | omega)))
local macro_rules | `(tactic| walk_at "mo") => `(tactic| (walk_at "w"; (repeat (walk_at "wd"; walk_at "w"))))
local macro_rules | `(tactic| walk_at "env") => `(tactic| simp only [envP, envI, List.map_cons, List.map_nil, List.length_cons, List.length_nil, List.replicate, List.cons_append, List.nil_append, Nat.reduceAdd, Nat.reduceSub])

local macro_rules | `(tactic| walk_at "fn") => `(tactic| first | ((with_reducible show Mi.VAL _ _); (with_reducible apply Mi.t_left)) | ((with_reducible show Mi.Sat _ _); (with_reducible refine Mi.w_isiE ?_)) | ((with_reducible show Mi.Sat _ _); (with_reducible refine Mi.w_pkR ?_)) | ((with_reducible show Mi.Sat _ _); (with_reducible refine Mi.w_ext ?_)) | ((with_reducible show Mi.EXT _ _ _ _ _); (with_reducible apply Mi.ext_); (walk_at "side")) | ((with_reducible show Mi.SatA _ _); (with_reducible refine Mi.w_r3 ?_)) | ((with_reducible show Mi.Sat _ _); (first | with_reducible refine Mi.w_lr3 ?_ | with_reducible refine Mi.w_pop ?_ | with_reducible refine Mi.w_sj ?_ | with_reducible refine Mi.w_popAt ?_ | with_reducible refine Mi.w_lstS ?_)) | ((with_reducible show Mi.SatA _ _); (first | with_reducible refine Mi.w_enum ?_)) | ((with_reducible show Mi.TG _ _); (with_reducible apply Mi.tg_l); (exact rfl)) | ((with_reducible show Mi.EN _ _); (with_reducible refine Mi.en_ ?_)) | ((with_reducible show Mi.SJ _ _); (with_reducible apply Mi.sj_); (walk_at "side")))
/-- numbers that leave room -/
inductive Sm : PyData → Prop
  | num {i} : Sm (.tuple [.str "number", .int i])
  | wav {b} (l : Sm b) : Sm (.tuple [.str "wave", b])
  | sum {xs} (l : ∀ x ∈ xs, Sm x) : Sm (.tuple (.str "sum" :: xs))
  | share {b i d} (l : Sm b) : Sm (.tuple [.str "share", b, .int i, .int d])
  | prod {b c d} (l : Sm b) (l2 : Sm c) : Sm (.tuple [.str "product", b, c, .int d])
  | later {b i} (l : Sm b) (li : -1000 ≤ i ∧ i ≤ 1001) : Sm (.tuple [.str "later", b, .int i])
  | turn {s i d} (ld : d ≤ 1000000000) : Sm (.tuple [.str "turning", .int s, .int i, .int d])
  | moved {b c} (l : Sm b) (l2 : Sm c) : Sm (.tuple [.str "moved", b, c])
  | minus {b c} (l : Sm b) (l2 : Sm c) : Sm (.tuple [.str "minus", b, c])
theorem lim_of {i : Int} (h : -1000000000000 ≤ i ∧ i ≤ 1000000000000) : Lim i := h
set_option maxHeartbeats 8000000 in
theorem wpart_go {T : PyData} {Q : PyData → PyData → Prop} (hT : TapeOk T) (q : ∀ s i v T', Lim s → Lim i → (Dv v ∧ v ≤ 1000000000) → TapeOk T' → Q (.tuple [.str "wave", .tuple [.str "turning", .int s, .int i, .int v]]) T') : SatI (runI 2 m__law_wave_part T []) Q := by
  refine run_I ?_
  walk_at "env"
  unfold m__law_wave_part
  walk_at "mo"
  refine pickI_go [-1, 1] (-1) 1 hT rfl (by decide) (by decide) (by decide) fun a Ta _ a0 a1 hTa => ?_
  walk_at "mo"
  refine pickI_go [300, 9000, 200000] 300 200000 hTa rfl (by decide) (by decide) (by decide) fun b Tb _ b0 b1 hTb => ?_
  walk_at "mo"
  refine draw_go hTb (by omega) (by omega) fun c Tc c0 c1 hTc => ?_
  walk_at "mo"
  refine draw_go hTc (by omega) (by omega) fun e Te e0 e1 hTe => ?_
  walk_at "mo"
  refine pickI_go [1, 1, 7, 60] 1 60 hTe rfl (by decide) (by decide) (by decide) fun f Tf _ f0 f1 hTf => ?_
  walk_at "mo"
  refine q _ _ _ Tf ⟨by omega, by omega⟩ ?_ ⟨⟨f0, by omega⟩, by omega⟩ hTf
  have : a = -1 ∨ a = 0 ∨ a = 1 := by omega
  rcases this with rfl | rfl | rfl
  · exact ⟨by omega, by omega⟩
  · exact ⟨by omega, by omega⟩
  · exact ⟨by omega, by omega⟩
def SParts (ds : List PyData) (gs : List Den) : Prop := ds.length = gs.length ∧ ∀ (i : Nat) x g, ds[i]? = some x → gs[i]? = some g → EX 5 true x g ∧ g.size ≤ 8 ∧ Sm x
theorem SParts.add {ds : List PyData} {gs : List Den} {x : PyData} {g : Den} (h : SParts ds gs) (hx : EX 5 true x g) (hz : g.size ≤ 8 ∧ Sm x) : SParts (ds ++ [x]) (gs ++ [g]) := by
  obtain ⟨h1, h2⟩ := h
  refine ⟨by rw [List.length_append, List.length_append, h1]; rfl, fun i y f hy hf => ?_⟩
  by_cases l : i < ds.length
  · rw [List.getElem?_append_left l] at hy
    rw [List.getElem?_append_left (by omega)] at hf
    exact h2 i y f hy hf
  · rw [List.getElem?_append_right (by omega)] at hy hf
    have : i - ds.length = 0 := by
      have := (List.getElem?_eq_some_iff.mp hy).1
      rw [List.length_singleton] at this
      omega
    rw [this] at hy
    rw [← h1, this] at hf
    cases hy
    cases hf
    exact ⟨hx, hz⟩
theorem SParts.size {ds : List PyData} {gs : List Den} (h : SParts ds gs) : (gs.map fun g => g.size).sum ≤ 8 * gs.length := by
  have each : ∀ g ∈ gs, g.size ≤ 8 := fun g hg => by
    obtain ⟨i, hi, rfl⟩ := List.getElem_of_mem hg
    have hi' : i < ds.length := by have := h.1; omega
    exact (h.2 i (ds[i]'hi') _ (List.getElem?_eq_getElem hi') (List.getElem?_eq_getElem hi)).2.1
  clear h
  induction gs with
  | nil => simp
  | cons g gs ih =>
    have := each g (List.mem_cons_self ..)
    have := ih fun x hx => each x (List.mem_cons_of_mem _ hx)
    rw [List.map_cons, List.sum_cons, List.length_cons]
    omega
theorem turn_ex {n : Nat} {s i v : Int} (h1 : Lim s) (h2 : Lim i) (h3 : Dv v ∧ v ≤ 1000000000) : EX (n + 1) false (.tuple [.str "turning", .int s, .int i, .int v]) (dTurn s i v) := .aturn h1 h2 h3.1
theorem wpart_ex {n : Nat} {s i v : Int} (h1 : Lim s) (h2 : Lim i) (h3 : Dv v ∧ v ≤ 1000000000) : EX (n + 2) true (.tuple [.str "wave", .tuple [.str "turning", .int s, .int i, .int v]]) (dWave (dTurn s i v)) := .qwave (.aturn h1 h2 h3.1)
set_option maxHeartbeats 8000000 in
theorem series_go {T : PyData} {Q : PyData → PyData → Prop} (hT : TapeOk T) (q : ∀ d D T', EX 6 true d D → (D.size ≤ 40 ∧ Sm d) → TapeOk T' → Q d T') : SatI (runI 5 m__law_series T []) Q := by
  refine run_I ?_
  walk_at "env"
  unfold m__law_series
  walk_at "mo"
  refine draw_go hT (by omega) (by omega) fun n Tn n0 n1 hTn => ?_
  walk_at "mo"
  have h0 : ∃ (T : PyData) (ds : List PyData) (gs : List Den) (x2 x3 x4 : Sl), ([.io Tn, .own (.list []), .no, .no, .no] : Mi.Env) = [.io T, .own (.list ds), x2, x3, x4] ∧ TapeOk T ∧ SParts ds gs ∧ ds.length = 0 ∧ notIo [x2] 0 = true ∧ notIo [x3] 0 = true ∧ notIo [x4] 0 = true := ⟨Tn, [], [], _, _, _, rfl, hTn, ⟨rfl, fun i x g h => by simp at h⟩, rfl, rfl, rfl, rfl⟩
  with_reducible refine for_inv (fun i ρ => ∃ (T : PyData) (ds : List PyData) (gs : List Den) (x2 x3 x4 : Sl), ρ = [.io T, .own (.list ds), x2, x3, x4] ∧ TapeOk T ∧ SParts ds gs ∧ ds.length = i ∧ notIo [x2] 0 = true ∧ notIo [x3] 0 = true ∧ notIo [x4] 0 = true) h0 (fun i x ρ hx hI => ?_) (fun ρ hI => ?_)
  · obtain ⟨T, ds, gs, x2, x3, x4, rfl, hT, hp, hdl, i2, i3, i4⟩ := hI
    obtain ⟨hi, rfl⟩ := rngD_get hx
    refine tg_n i2 ?_
    walk_at "mo"
    refine wpart_go hT fun s i v T1 l1 l2 l3 hT1 => ?_
    walk_at "mo"
    refine tg_n i3 ?_
    walk_at "mo"
    refine draw_go hT1 (by omega) (by omega) fun k T2 k0 k1 hT2 => ?_
    walk_at "mo"
    refine tg_n i4 ?_
    walk_at "mo"
    have fin : ∀ (T : PyData) (d : PyData) (g : Den) (x2 x4 : Sl), TapeOk T → EX 5 true d g → (g.size ≤ 8 ∧ Sm d) → notIo [x2] 0 = true → notIo [x4] 0 = true → ∃ (T' : PyData) (es : List PyData) (fs : List Den) (x2' x3' x4' : Sl), ([.io T, .own (.list (ds ++ [d])), x2, .val d, x4] : Mi.Env) = [.io T', .own (.list es), x2', x3', x4'] ∧ TapeOk T' ∧ SParts es fs ∧ es.length = ds.length + 1 ∧ notIo [x2'] 0 = true ∧ notIo [x3'] 0 = true ∧ notIo [x4'] 0 = true :=
      fun T d g x2 x4 hT hx hz i2 i4 => ⟨T, ds ++ [d], gs ++ [g], x2, .val d, x4, rfl, hT, hp.add hx hz, by rw [List.length_append]; rfl, i2, rfl, i4⟩
    rw [← hdl]
    by_cases c0 : k = 0
    · walk_at "mo"
      refine wpart_go hT2 fun s2 j2 v2 T3 m1 m2 m3 hT3 => ?_
      walk_at "mo"
      refine fin T3 _ (dProd (dWave (dTurn s i v)) (dWave (dTurn s2 j2 v2)) 1000000) _ _ hT3 (.qprod (wpart_ex l1 l2 l3) (wpart_ex m1 m2 m3) ⟨by decide, by decide⟩ ⟨le_BM (k := 30) (by decide) (show (1000000 : Int) ≤ 2 ^ 30 by decide), le_BM (k := 30) (by decide) (show (1000000 : Int) ≤ 2 ^ 30 by decide)⟩) ⟨by show 1 + 1 + (1 + 1) + 1 ≤ 8; decide, .prod (.wav (.turn l3.2)) (.wav (.turn m3.2))⟩ rfl rfl
    · walk_at "mo"
      by_cases c1 : k = 1
      · walk_at "mo"
        refine draw_go hT2 (by omega) (by omega) fun y T3 y0 y1 hT3 => ?_
        walk_at "mo"
        refine fin T3 _ (dShare (dWave (dTurn s i v)) (y - 2000) 1000) _ _ hT3 (.qshare (wpart_ex l1 l2 l3) ⟨by omega, by omega⟩ ⟨by decide, by decide⟩) ⟨by show 1 + 1 + 1 ≤ 8; decide, .share (.wav (.turn l3.2))⟩ rfl rfl
      · walk_at "mo"
        by_cases c2 : k = 2
        · walk_at "mo"
          refine wpart_go hT2 fun s2 j2 v2 T3 m1 m2 m3 hT3 => ?_
          walk_at "mo"
          refine draw_go hT3 (by omega) (by omega) fun y T4 y0 y1 hT4 => ?_
          walk_at "mo"
          refine fin T4 _ (dWave (dMoved (dTurn s i v) (dShare (dWave (dTurn s2 j2 v2)) y 1000000))) _ _ hT4 (.qwave (.amoved (.aturn l1 l2 l3.1) (.qshare (wpart_ex m1 m2 m3) ⟨by omega, by omega⟩ ⟨by decide, by decide⟩))) ⟨by show 1 + (1 + 1 + 1) + 1 + 1 ≤ 8; decide, .wav (.moved (.turn l3.2) (.share (.wav (.turn m3.2))))⟩ rfl rfl
        · walk_at "mo"
          refine fin T2 _ (dWave (dTurn s i v)) _ _ hT2 (wpart_ex l1 l2 l3) ⟨by show 1 + 1 ≤ 8; decide, .wav (.turn l3.2)⟩ rfl rfl
  · obtain ⟨T, ds, gs, x2, x3, x4, rfl, hT, hp, hdl, i2, i3, i4⟩ := hI
    rw [rngD_len] at hdl
    walk_at "mo"
    refine draw_go hT (by omega) (by omega) fun y T1 y0 y1 hT1 => ?_
    walk_at "mo"
    refine pickI_go [0, 0, 1, -1, y - 1000000] (-1000000) 1000000 hT1 rfl (by simp) (by simp) (by intro k hk; simp at hk; omega) fun z Tz _ z0 z1 hTz => ?_
    walk_at "mo"
    have hp2 := hp.add (x := .tuple [.str "number", .int z]) (g := dNum z) (.qnum (n := 4) ⟨by omega, by omega⟩) ⟨by show 1 ≤ 8; decide, .num⟩
    have hs := hp2.size
    have hl1 := hp2.1
    have hl2 : (ds ++ [PyData.tuple [.str "number", .int z]]).length = ds.length + 1 := by rw [List.length_append]; rfl
    refine q (.tuple (.str "sum" :: (ds ++ [.tuple [.str "number", .int z]]))) (dSum (gs ++ [dNum z])) Tz (.qsum (xs := ds ++ [.tuple [.str "number", .int z]]) hl1 (by omega) (by omega) fun i x g hx hg => (hp2.2 i x g hx hg).1) ⟨?_, .sum fun x hx => ?_⟩ hTz
    · show ((gs ++ [dNum z]).map fun v => v.size).sum + 1 ≤ 40
      omega
    · obtain ⟨i, hi, rfl⟩ := List.getElem_of_mem hx
      exact (hp2.2 i _ _ (List.getElem?_eq_getElem hi) (List.getElem?_eq_getElem (by omega))).2.2
theorem number_go {T : PyData} {Q : PyData → PyData → Prop} (hT : TapeOk T) (q : ∀ i T', Lim i → TapeOk T' → Q (.int i) T') : SatI (runI 1 m__law_number T []) Q := by
  refine run_I ?_
  walk_at "env"
  unfold m__law_number
  walk_at "mo"
  refine pickI_go [-1, 1] (-1) 1 hT rfl (by decide) (by decide) (by decide) fun a Ta _ a0 a1 hTa => ?_
  walk_at "mo"
  refine pickI_go [3, 100, 10 ^ Int.toNat 6, 2 * 10 ^ Int.toNat 6, 10 ^ Int.toNat 12 + 1] 1 1000000000001 hTa rfl (by decide) (by decide) (by decide) fun b Tb _ b0 b1 hTb => ?_
  walk_at "mo"
  refine draw_go hTb (by omega) (by omega) fun c Tc c0 c1 hTc => ?_
  walk_at "mo"
  refine q _ Tc ?_ hTc
  have : a = -1 ∨ a = 0 ∨ a = 1 := by omega
  rcases this with rfl | rfl | rfl
  · exact ⟨by omega, by omega⟩
  · exact ⟨by omega, by omega⟩
  · exact ⟨by omega, by omega⟩
theorem divisor_go {T : PyData} {Q : PyData → PyData → Prop} (hT : TapeOk T) (q : ∀ i T', Dv i → TapeOk T' → Q (.int i) T') : SatI (runI 1 m__law_divisor T []) Q := by
  refine run_I ?_
  walk_at "env"
  unfold m__law_divisor
  walk_at "mo"
  refine pickI_go [3, 1000, 10 ^ Int.toNat 6, 10 ^ Int.toNat 12] 1 1000000000000 hT rfl (by decide) (by decide) (by decide) fun b Tb _ b0 b1 hTb => ?_
  walk_at "mo"
  refine draw_go hTb (by omega) (by omega) fun c Tc c0 c1 hTc => ?_
  walk_at "mo"
  exact q _ Tc ⟨by omega, by omega⟩ hTc
def sz4 (k : Nat) : Nat := 4 ^ (k + 1)
theorem sz4_succ (k : Nat) : sz4 (k + 1) = 4 * sz4 k := by unfold sz4; rw [Nat.pow_succ]; exact Nat.mul_comm _ _
theorem sz4_pos (k : Nat) : 4 ≤ sz4 k := by
  unfold sz4
  rw [Nat.pow_succ]
  have : 0 < 4 ^ k := Nat.pow_pos (by decide)
  omega
abbrev QGo (n : Nat) : Prop := ∀ (k : Nat) (T : PyData) (Q : PyData → PyData → Prop), 2 * k + 2 ≤ n → k ≤ 10 → TapeOk T → (∀ d D T', EX (k + 2) true d D → (D.size ≤ sz4 k ∧ Sm d) → TapeOk T' → Q d T') → SatI (r__law_quantity n T [.int k]) Q
def AI : Nat → Nat
  | 0 => 1
  | k + 1 => k + 3
theorem AI_le (k : Nat) : AI k ≤ k + 2 := by cases k <;> simp [AI]
abbrev AGo (n : Nat) : Prop := ∀ (k : Nat) (T : PyData) (Q : PyData → PyData → Prop), 2 * k + 1 ≤ n → k ≤ 10 → TapeOk T → (∀ d D T', EX (AI k) false d D → (D.size + 1 ≤ sz4 k ∧ Sm d) → TapeOk T' → Q d T') → SatI (r__law_angle n T [.int k]) Q
theorem bits_bd {k : Nat} (h : k ≤ 12) : bits k ≤ 400000 := by
  have m : ∀ a b, a ≤ b → bits a ≤ bits b := by
    intro a b hab
    induction hab with
    | refl => exact Nat.le_refl _
    | step _ ih => exact Nat.le_trans ih (by show _ ≤ 2 * bits _ + 84; omega)
  exact Nat.le_trans (m _ _ h) (by decide)
theorem EX.bm {n : Nat} {d : PyData} {D : Den} (h : EX n true d D) (hn : n ≤ 12) : D.most ≤ BM := le_BM (bits_bd hn) (h.good.mle rfl)
set_option maxHeartbeats 8000000 in
theorem angle_step {n : Nat} (hA : AGo n) (hQ : QGo n) : AGo (n + 1) := by
  intro k T Q hk hk10 hT q
  have fin : ∀ s i v T', Lim s → Lim i → (Dv v ∧ v ≤ 1000000000) → TapeOk T' → Q (.tuple [.str "turning", .int s, .int i, .int v]) T' := fun s i v T' h1 h2 h3 hT' => q _ _ T' (EX.up (n := 1) (.aturn (n := 0) h1 h2 h3.1) (by cases k <;> simp [AI])) ⟨by have := sz4_pos k; show 1 + 1 ≤ _; omega, .turn h3.2⟩ hT'
  rw [r__law_angle_succ]
  refine run_I ?_
  walk_at "env"
  unfold q__law_angle
  walk_at "mo"
  refine if_c (fun g => ?_) (fun g => ?_)
  · obtain ⟨j, rfl⟩ : ∃ j, k = j + 1 := ⟨k - 1, by omega⟩
    have sp := sz4_succ j
    have s4 := sz4_pos j
    rw [show ((j + 1 : Nat) : Int) = (j : Int) + 1 by omega]
    walk_at "mo"
    refine draw_go hT (by omega) (by omega) fun c T1 c0 c1 hT1 => ?_
    walk_at "mo"
    refine if_c (fun g2 => ?_) (fun g2 => ?_)
    · walk_at "mo"
      refine pickI_go [-1, 1] (-1) 1 hT1 rfl (by decide) (by decide) (by decide) fun a Ta _ a0 a1 hTa => ?_
      walk_at "mo"
      refine pickI_go [9, 1000, 400000, 10 ^ Int.toNat 12] 1 1000000000000 hTa rfl (by decide) (by decide) (by decide) fun b Tb _ b0 b1 hTb => ?_
      walk_at "mo"
      refine draw_go hTb (by omega) (by omega) fun x Tx x0 x1 hTx => ?_
      walk_at "mo"
      refine number_go hTx fun s Ts ls hTs => ?_
      walk_at "mo"
      refine pickI_go [1, 1, 7, 1000, 10 ^ Int.toNat 9] 1 1000000000 hTs rfl (by decide) (by decide) (by decide) fun v Tv _ v0 v1 hTv => ?_
      walk_at "mo"
      refine fin _ _ _ Tv ls ?_ ⟨⟨v0, by omega⟩, by omega⟩ hTv
      have : a = -1 ∨ a = 0 ∨ a = 1 := by omega
      rcases this with rfl | rfl | rfl
      · exact ⟨by omega, by omega⟩
      · exact ⟨by omega, by omega⟩
      · exact ⟨by omega, by omega⟩
    · walk_at "mo"
      refine if_c (fun g3 => ?_) (fun g3 => ?_)
      · walk_at "mo"
        rw [show (j : Int) + 1 - 1 = j by omega]
        refine hA j _ _ (by omega) (by omega) hT1 fun d D T2 h1 h2 hT2 => ?_
        walk_at "mo"
        rw [show (j : Int) + 1 - 1 = j by omega]
        refine hQ j _ _ (by omega) (by omega) hT2 fun d2 D2 T3 h3 h4 hT3 => ?_
        walk_at "mo"
        exact q _ _ T3 (.amoved (n := j + 2) (h1.up (AI_le j)) h3) ⟨by show D.size + D2.size + 1 + 1 ≤ _; omega, .moved h2.2 h4.2⟩ hT3
      · walk_at "mo"
        rw [show (j : Int) + 1 - 1 = j by omega]
        refine hA j _ _ (by omega) (by omega) hT1 fun d D T2 h1 h2 hT2 => ?_
        walk_at "mo"
        rw [show (j : Int) + 1 - 1 = j by omega]
        refine hA j _ _ (by omega) (by omega) hT2 fun d2 D2 T3 h3 h4 hT3 => ?_
        walk_at "mo"
        exact q _ _ T3 (.aminus (n := j + 2) (h1.up (AI_le j)) (h3.up (AI_le j))) ⟨by show D.size + D2.size + 1 + 1 ≤ _; omega, .minus h2.2 h4.2⟩ hT3
  · have : k = 0 := by omega
    subst this
    walk_at "mo"
    refine pickI_go [-1, 1] (-1) 1 hT rfl (by decide) (by decide) (by decide) fun a Ta _ a0 a1 hTa => ?_
    walk_at "mo"
    refine pickI_go [9, 1000, 400000, 10 ^ Int.toNat 12] 1 1000000000000 hTa rfl (by decide) (by decide) (by decide) fun b Tb _ b0 b1 hTb => ?_
    walk_at "mo"
    refine draw_go hTb (by omega) (by omega) fun x Tx x0 x1 hTx => ?_
    walk_at "mo"
    refine number_go hTx fun s Ts ls hTs => ?_
    walk_at "mo"
    refine pickI_go [1, 1, 7, 1000, 10 ^ Int.toNat 9] 1 1000000000 hTs rfl (by decide) (by decide) (by decide) fun v Tv _ v0 v1 hTv => ?_
    walk_at "mo"
    refine fin _ _ _ Tv ls ?_ ⟨⟨v0, by omega⟩, by omega⟩ hTv
    have : a = -1 ∨ a = 0 ∨ a = 1 := by omega
    rcases this with rfl | rfl | rfl
    · exact ⟨by omega, by omega⟩
    · exact ⟨by omega, by omega⟩
    · exact ⟨by omega, by omega⟩
def QParts (n z : Nat) (ds : List PyData) (gs : List Den) : Prop := ds.length = gs.length ∧ ∀ (i : Nat) x g, ds[i]? = some x → gs[i]? = some g → EX n true x g ∧ g.size ≤ z ∧ Sm x
theorem QParts.add {n z : Nat} {ds : List PyData} {gs : List Den} {x : PyData} {g : Den} (h : QParts n z ds gs) (hx : EX n true x g) (hz : g.size ≤ z ∧ Sm x) : QParts n z (ds ++ [x]) (gs ++ [g]) := by
  obtain ⟨h1, h2⟩ := h
  refine ⟨by rw [List.length_append, List.length_append, h1]; rfl, fun i y f hy hf => ?_⟩
  by_cases l : i < ds.length
  · rw [List.getElem?_append_left l] at hy
    rw [List.getElem?_append_left (by omega)] at hf
    exact h2 i y f hy hf
  · rw [List.getElem?_append_right (by omega)] at hy hf
    have : i - ds.length = 0 := by
      have := (List.getElem?_eq_some_iff.mp hy).1
      rw [List.length_singleton] at this
      omega
    rw [this] at hy
    rw [← h1, this] at hf
    cases hy
    cases hf
    exact ⟨hx, hz⟩
theorem QParts.size {n z : Nat} {ds : List PyData} {gs : List Den} (h : QParts n z ds gs) : (gs.map fun g => g.size).sum ≤ z * gs.length := by
  have each : ∀ g ∈ gs, g.size ≤ z := fun g hg => by
    obtain ⟨i, hi, rfl⟩ := List.getElem_of_mem hg
    have hi' : i < ds.length := by have := h.1; omega
    exact (h.2 i (ds[i]'hi') _ (List.getElem?_eq_getElem hi') (List.getElem?_eq_getElem hi)).2.1
  clear h
  induction gs with
  | nil => simp
  | cons g gs ih =>
    have := each g (List.mem_cons_self ..)
    have := ih fun x hx => each x (List.mem_cons_of_mem _ hx)
    rw [List.map_cons, List.sum_cons, List.length_cons, Nat.mul_add]
    omega
set_option maxHeartbeats 16000000 in
theorem quantity_step {n : Nat} (hA : AGo n) (hQ : QGo n) : QGo (n + 1) := by
  intro k T Q hk hk10 hT q
  have s4k := sz4_pos k
  rw [r__law_quantity_succ]
  refine run_I ?_
  walk_at "env"
  unfold q__law_quantity
  walk_at "mo"
  refine if_c (fun g => ?_) (fun g => ?_)
  · obtain ⟨j, rfl⟩ : ∃ j, k = j + 1 := ⟨k - 1, by omega⟩
    have sp := sz4_succ j
    have s4 := sz4_pos j
    have ej : (((j + 1 : Nat) : Int)) - 1 = (j : Int) := by omega
    walk_at "mo"
    refine draw_go hT (by omega) (by omega) fun c T1 c0 c1 hT1 => ?_
    walk_at "mo"
    by_cases e0 : c = 0
    · subst e0
      walk_at "mo"
      refine number_go hT1 fun s Ts ls hTs => ?_
      walk_at "mo"
      exact q _ _ Ts (.qnum ls) ⟨by show 1 ≤ _; omega, .num⟩ hTs
    · walk_at "mo"
      refine v_inL (ns := [1, 7]) ?_
      walk_at "mo"
      refine if_c (fun e1 => ?_) (fun e1 => ?_)
      · walk_at "mo"
        rw [ej, show (if (j : Int) > 0 then (j : Int) else 0) = (j : Int) by split <;> omega]
        refine hA j _ _ (by omega) (by omega) hT1 fun d D T2 h1 h2 hT2 => ?_
        walk_at "mo"
        exact q _ _ T2 (.qwave (n := j + 2) (h1.up (AI_le j))) ⟨by show D.size + 1 ≤ _; omega, .wav h2.2⟩ hT2
      · walk_at "mo"
        refine v_inL (ns := [2, 3]) ?_
        walk_at "mo"
        refine if_c (fun e2 => ?_) (fun e2 => ?_)
        · walk_at "mo"
          refine draw_go hT1 (by omega) (by omega) fun y T2 y0 y1 hT2 => ?_
          walk_at "mo"
          refine lc_inv (fun i acc ρ => ∃ (T : PyData) (gs : List Den), ρ = [.io T, .val (.int ((j + 1 : Nat) : Int)), .val (.int c), .no] ∧ TapeOk T ∧ acc.length = i ∧ QParts (j + 2) (sz4 j) acc gs) ⟨T2, [], rfl, hT2, rfl, rfl, fun i x g h => by simp at h⟩ (by rw [rngD_len]; omega) (fun i x acc ρ hx hI => ?_) (fun acc ρ hI => ?_)
          · obtain ⟨T, gs, rfl, hT, hl, hp⟩ := hI
            walk_at "mo"
            rw [ej]
            refine hQ j _ _ (by omega) (by omega) hT fun d D T3 h1 h2 hT3 => ?_
            walk_at "mo"
            refine ⟨rfl, ?_⟩
            walk_at "mo"
            exact ⟨T3, gs ++ [D], rfl, hT3, by rw [List.length_append, hl]; rfl, hp.add h1 h2⟩
          · obtain ⟨T, gs, rfl, hT, hl, hp⟩ := hI
            rw [rngD_len] at hl
            have ps := hp.size
            have pl := hp.1
            have gl : gs.length ≤ 3 := by omega
            have pz : sz4 j * gs.length ≤ sz4 j * 3 := Nat.mul_le_mul_left _ gl
            walk_at "mo"
            refine q (.tuple (.str "sum" :: acc)) (dSum gs) T (.qsum (xs := acc) pl (by omega) (by omega) fun i x g hx hg => (hp.2 i x g hx hg).1) ⟨?_, .sum fun x hx => ?_⟩ hT
            · show (gs.map fun v => v.size).sum + 1 ≤ _
              omega
            · obtain ⟨i, hi, rfl⟩ := List.getElem_of_mem hx
              exact (hp.2 i _ _ (List.getElem?_eq_getElem hi) (List.getElem?_eq_getElem (by omega))).2.2
        · walk_at "mo"
          by_cases e4 : c = 4
          · subst e4
            walk_at "mo"
            rw [ej]
            refine hQ j _ _ (by omega) (by omega) hT1 fun d D T2 h1 h2 hT2 => ?_
            walk_at "mo"
            refine number_go hT2 fun s Ts ls hTs => ?_
            walk_at "mo"
            refine divisor_go hTs fun v Tv lv hTv => ?_
            walk_at "mo"
            exact q _ _ Tv (.qshare h1 ls lv) ⟨by show D.size + 1 ≤ _; omega, .share h2.2⟩ hTv
          · walk_at "mo"
            by_cases e5 : c = 5
            · subst e5
              walk_at "mo"
              rw [ej]
              refine hQ j _ _ (by omega) (by omega) hT1 fun d D T2 h1 h2 hT2 => ?_
              walk_at "mo"
              rw [ej]
              refine hQ j _ _ (by omega) (by omega) hT2 fun d2 D2 T3 h3 h4 hT3 => ?_
              walk_at "mo"
              refine divisor_go hT3 fun v Tv lv hTv => ?_
              walk_at "mo"
              exact q _ _ Tv (.qprod h1 h3 lv ⟨h1.bm (by omega), h3.bm (by omega)⟩) ⟨by show D.size + D2.size + 1 ≤ _; omega, .prod h2.2 h4.2⟩ hTv
            · walk_at "mo"
              rw [ej]
              refine hQ j _ _ (by omega) (by omega) hT1 fun d D T2 h1 h2 hT2 => ?_
              walk_at "mo"
              refine draw_go hT2 (by omega) (by omega) fun y T3 y0 y1 hT3 => ?_
              walk_at "mo"
              exact q _ _ T3 (.qlater h1 ⟨by omega, by omega⟩) ⟨by show D.size ≤ _; omega, .later h2.2 ⟨by omega, by omega⟩⟩ hT3
  · have : k = 0 := by omega
    subst this
    walk_at "mo"
    refine draw_go hT (by omega) (by omega) fun c T1 c0 c1 hT1 => ?_
    walk_at "mo"
    by_cases e0 : c = 0
    · subst e0
      walk_at "mo"
      refine number_go hT1 fun s Ts ls hTs => ?_
      walk_at "mo"
      exact q _ _ Ts (.qnum ls) ⟨by show 1 ≤ _; omega, .num⟩ hTs
    · have : c = 1 := by omega
      subst this
      walk_at "mo"
      refine v_inL (ns := [1, 7]) ?_
      walk_at "mo"
      rw [show (if ((0 : Nat) : Int) - 1 > 0 then ((0 : Nat) : Int) - 1 else 0) = ((0 : Nat) : Int) from rfl]
      refine hA 0 _ _ (by omega) (by omega) hT1 fun d D T2 h1 h2 hT2 => ?_
      walk_at "mo"
      exact q _ _ T2 (.qwave h1) ⟨by show D.size + 1 ≤ _; omega, .wav h2.2⟩ hT2
theorem draws_all : ∀ n, AGo n ∧ QGo n
  | 0 => ⟨fun k T Q h => by omega, fun k T Q h => by omega⟩
  | n + 1 => ⟨angle_step (draws_all n).1 (draws_all n).2, quantity_step (draws_all n).1 (draws_all n).2⟩
theorem quantity_go {k : Nat} {T : PyData} {Q : PyData → PyData → Prop} (hk : k ≤ 4) (hT : TapeOk T) (q : ∀ d D T', EX (k + 2) true d D → (D.size ≤ sz4 k ∧ Sm d) → TapeOk T' → Q d T') : SatI (r__law_quantity 12 T [.int k]) Q := (draws_all 12).2 k T Q (by omega) (by omega) hT q

end K11

set_option Elab.async false
set_option linter.all false
set_option maxRecDepth 100000
namespace K11
open PySem hiding Env ret
open PySem.Spec PyProof.Rows L2 Mi
/-! the walk over mirrors -/
local macro_rules | `(tactic| walk_at "lk") => `(tactic| first | exact Mi.lk0 | exact Mi.lk1 | exact Mi.lk2 | exact Mi.lk3 | exact Mi.lk4 | exact Mi.lk5 | exact Mi.lk6 | exact Mi.lk7 | exact Mi.lk8 | exact Mi.lk9 | exact Mi.lk10 | exact Mi.lk11 | exact Mi.lk12 | exact Mi.lk13 | exact Mi.lk14 | exact Mi.lk15 | exact Mi.lk16 | exact Mi.lk17 | exact Mi.lk18 | exact Mi.lk19 | exact Mi.lk20 | exact Mi.lk21 | exact Mi.lk22 | exact Mi.lk23 | exact Mi.lk24 | exact Mi.lk25 | exact Mi.lk26 | exact Mi.lk27 | exact Mi.lk28 | exact Mi.lk29 | exact Mi.lk30 | exact Mi.lk31 | exact Mi.lk32 | exact Mi.lk33 | exact Mi.lk34 | exact Mi.lk35 | exact Mi.lk36 | exact Mi.lk37 | exact Mi.lk38 | exact Mi.lk39)
local macro_rules | `(tactic| walk_at "st") => `(tactic| first | with_reducible refine Mi.st0 ?_ | with_reducible refine Mi.st1 ?_ | with_reducible refine Mi.st2 ?_ | with_reducible refine Mi.st3 ?_ | with_reducible refine Mi.st4 ?_ | with_reducible refine Mi.st5 ?_ | with_reducible refine Mi.st6 ?_ | with_reducible refine Mi.st7 ?_ | with_reducible refine Mi.st8 ?_ | with_reducible refine Mi.st9 ?_ | with_reducible refine Mi.st10 ?_ | with_reducible refine Mi.st11 ?_ | with_reducible refine Mi.st12 ?_ | with_reducible refine Mi.st13 ?_ | with_reducible refine Mi.st14 ?_ | with_reducible refine Mi.st15 ?_ | with_reducible refine Mi.st16 ?_ | with_reducible refine Mi.st17 ?_ | with_reducible refine Mi.st18 ?_ | with_reducible refine Mi.st19 ?_ | with_reducible refine Mi.st20 ?_ | with_reducible refine Mi.st21 ?_ | with_reducible refine Mi.st22 ?_ | with_reducible refine Mi.st23 ?_ | with_reducible refine Mi.st24 ?_ | with_reducible refine Mi.st25 ?_ | with_reducible refine Mi.st26 ?_ | with_reducible refine Mi.st27 ?_ | with_reducible refine Mi.st28 ?_ | with_reducible refine Mi.st29 ?_ | with_reducible refine Mi.st30 ?_ | with_reducible refine Mi.st31 ?_ | with_reducible refine Mi.st32 ?_ | with_reducible refine Mi.st33 ?_ | with_reducible refine Mi.st34 ?_ | with_reducible refine Mi.st35 ?_ | with_reducible refine Mi.st36 ?_ | with_reducible refine Mi.st37 ?_ | with_reducible refine Mi.st38 ?_ | with_reducible refine Mi.st39 ?_)
local macro_rules | `(tactic| walk_at "at") => `(tactic| first | with_reducible assumption | exact Rd.at0 | exact Rd.at1 | exact Rd.at2 | exact Rd.at3 | exact Rd.at4)
local macro_rules | `(tactic| walk_at "side") => `(tactic| first | with_reducible assumption | omega | (constructor <;> omega) | (refine Or.inl ⟨?_, ?_⟩ <;> omega) | (refine Or.inr ⟨?_, ?_⟩ <;> omega) | (simp only [List.length_cons, List.length_nil, List.length_append, List.length_map]; omega) | ((refine ⟨⟨?_, ?_⟩, ?_, ?_⟩) <;> omega))
local macro_rules | `(tactic| walk_at "fn") => `(tactic| fail)
local macro_rules | `(tactic| walk_at "w1") => `(tactic| first
  | ((with_reducible show Mi.SatS _ _ _ _ _ _); (first | with_reducible refine Mi.w_seq ?_ | with_reducible refine Mi.w_retIf ?_ | with_reducible refine Mi.w_retX ?_ | with_reducible refine Mi.w_asgX ?_ | with_reducible refine Mi.w_dropX ?_ | with_reducible refine Mi.w_raise ?_ | with_reducible refine Mi.w_asg ?_ | with_reducible refine Mi.w_ifS ?_ | with_reducible refine Mi.w_drop ?_ | with_reducible refine Mi.w_ret ?_ | with_reducible refine Mi.w_next ?_ | with_reducible refine Mi.w_for ?_ | with_reducible refine Mi.w_retN ?_ | with_reducible refine Mi.w_brk ?_ | with_reducible refine Mi.w_cnt ?_ | with_reducible refine Mi.w_while ?_ | with_reducible refine Mi.w_setO ?_))
  | ((with_reducible show Mi.Sat _ _); (first | ((with_reducible apply Mi.w_val); (walk_at "lk")) | with_reducible refine Mi.w_c ?_ | with_reducible refine Mi.w_op ?_ | with_reducible refine Mi.w_call ?_ | with_reducible refine Mi.w_callI ?_ | with_reducible refine Mi.w_tup ?_ | with_reducible refine Mi.w_getV ?_ | with_reducible refine Mi.w_ixV ?_ | ((with_reducible apply Mi.w_pkv); (walk_at "lk")) | with_reducible refine Mi.w_peek ?_ | with_reducible refine Mi.w_cb ?_ | with_reducible refine Mi.w_lst ?_ | with_reducible refine Mi.w_un ?_ | ((with_reducible apply Mi.w_own); (walk_at "lk")) | with_reducible refine Mi.w_andV ?_ | with_reducible refine Mi.w_orV ?_ | with_reducible refine Mi.w_notV ?_ | with_reducible refine Mi.w_if ?_ | with_reducible refine Mi.w_chain ?_ | with_reducible refine Mi.w_sl ?_ | with_reducible refine Mi.w_get ?_ | with_reducible refine Mi.w_d0 ?_ | with_reducible refine Mi.w_dict ?_ | with_reducible refine Mi.w_tupS ?_ | with_reducible refine Mi.w_app ?_ | with_reducible refine Mi.w_lcw ?_ | ((with_reducible apply Mi.w_lenO); (walk_at "lk")) | ((with_reducible apply Mi.w_lenv); (walk_at "lk"))))
  | ((with_reducible show Mi.SatT _ _); (first | with_reducible refine Mi.w_B ?_ | with_reducible refine Mi.w_andT ?_ | with_reducible refine Mi.w_orT ?_ | with_reducible refine Mi.w_notT ?_ | with_reducible refine Mi.w_yes ?_))
  | ((with_reducible show Mi.SatA _ _); (first | with_reducible refine Mi.w_nil ?_ | with_reducible refine Mi.w_cons ?_ | with_reducible refine Mi.w_snil ?_ | with_reducible refine Mi.w_sone ?_ | with_reducible refine Mi.w_sstar ?_ | with_reducible refine Mi.w_r1 ?_ | with_reducible refine Mi.w_r2 ?_ | with_reducible refine Mi.w_itL1 ?_ | with_reducible refine Mi.w_itT1 ?_))
  | ((with_reducible show Mi.VAL _ _); (first | with_reducible apply Mi.v_add | with_reducible apply Mi.v_sub | with_reducible apply Mi.v_eqI | with_reducible apply Mi.v_lt | with_reducible apply Mi.v_le | with_reducible apply Mi.v_gt | with_reducible apply Mi.v_ge | with_reducible apply Mi.v_neI | ((with_reducible apply Mi.v_ixL); (walk_at "at")) | ((with_reducible apply Mi.v_ixT); (walk_at "at")) | ((with_reducible apply Mi.v_mul); (walk_at "side")) | ((with_reducible apply Mi.v_div); (walk_at "side")) | ((with_reducible apply Mi.v_mod); (walk_at "side")) | with_reducible apply Mi.v_neg | with_reducible apply Mi.v_eqS | with_reducible apply Mi.v_eqB | with_reducible apply Mi.v_neS | with_reducible apply Mi.v_neB | with_reducible apply Mi.v_eqNI | with_reducible apply Mi.v_neNI | with_reducible apply Mi.v_isN | with_reducible apply Mi.v_notN | with_reducible apply Mi.v_lenL | with_reducible apply Mi.v_lenT | with_reducible apply Mi.v_abs | with_reducible apply Mi.v_int | with_reducible apply Mi.v_intB | with_reducible apply Mi.v_min2 | with_reducible apply Mi.v_max2 | with_reducible apply Mi.v_tupL | with_reducible apply Mi.v_tupT | with_reducible apply Mi.v_lstL | with_reducible apply Mi.v_lstT | with_reducible apply Mi.v_slT | with_reducible apply Mi.v_slL | ((with_reducible apply Mi.v_pow); (decide)) | ((with_reducible apply Mi.v_catL); (walk_at "side")) | ((with_reducible apply Mi.v_catT); (walk_at "side")) | ((with_reducible apply Mi.v_divmod); (walk_at "side")) | walk_at "fn"))
  | ((with_reducible show Mi.IFV _ _ _); (first | with_reducible refine Mi.if_t ?_ | with_reducible refine Mi.if_f ?_ | with_reducible refine Mi.if_nt ?_ | with_reducible refine Mi.if_nf ?_ | with_reducible refine Mi.if_n1 ?_ | with_reducible refine Mi.if_n2 ?_ | with_reducible refine Mi.if_n3 ?_ | with_reducible refine Mi.if_n4 ?_ | with_reducible refine Mi.if_n5 ?_ | with_reducible refine Mi.if_n6 ?_))
  | ((with_reducible show Mi.SETS _ _); (first | walk_at "st" | (with_reducible refine Mi.put_own (by walk_at "lk") ?_) | (with_reducible refine Mi.put_io (by walk_at "lk") ?_)))
  | ((with_reducible show Mi.TG _ _); (first | ((with_reducible apply Mi.tg_n); (exact rfl)) | ((with_reducible apply Mi.tg_t); (exact rfl))))
  | ((with_reducible show Mi.TGS _ _); (first | with_reducible refine Mi.tgs_cons ?_ | with_reducible refine Mi.tgs_nil ?_))
  | ((with_reducible show Mi.LCB _ _ _); (with_reducible apply Mi.lcb); (exact rfl))
  | ((with_reducible show Mi.WIPE _ _); (first | with_reducible refine Mi.wp1 ?_ | with_reducible refine Mi.wp2 ?_ | ((with_reducible refine Mi.rs1 ?_ ?_); (walk_at "lk")) | ((with_reducible refine Mi.rs1v (d := ?_) ?_ ?_); (walk_at "lk")) | ((with_reducible refine Mi.rs2 ?_ ?_ ?_); (walk_at "lk"); (walk_at "lk"))))
  | ((with_reducible show Mi.SETO _ _ _ _); (with_reducible apply Mi.seto); (exact rfl))
  | with_reducible refine Mi.isl ?_
  | ((with_reducible show Mi.APP _ _ _ _ _); (with_reducible apply Mi.app_); (walk_at "side"))
  | ((with_reducible show Mi.LEQ _ _); (with_reducible apply Mi.leq); (walk_at "side"))
  | with_reducible refine Mi.isls ?_
  | with_reducible refine Mi.ists ?_
  | ((with_reducible show Mi.R1 _ _); (with_reducible apply Mi.r1_); (walk_at "side"))
  | ((with_reducible show Mi.R2 _ _); (with_reducible apply Mi.r2_); (walk_at "side"))
  | with_reducible refine Mi.prt ?_
  | with_reducible refine Mi.w_part ?_
  | with_reducible refine Mi.bl_ ?_
  | ((with_reducible show Mi.MU _ _); (with_reducible apply Mi.mu_own); (walk_at "lk"))
  | ((with_reducible show Mi.MU _ _); (with_reducible apply Mi.mu_io); (walk_at "lk"))
  | with_reducible refine Mi.dl_cons ?_
  | with_reducible refine Mi.dl_nil ?_
  | with_reducible refine Mi.w_none ?_
  | with_reducible refine Mi.io_of ?_
  | with_reducible refine Mi.w_itT ?_
  | with_reducible refine Mi.w_itL ?_
  | walk_at "fn")
local macro_rules | `(tactic| walk_at "w") => `(tactic| repeat (walk_at "w1"))
local macro_rules | `(tactic| walk_at "wd") => `(tactic| first
  | ((with_reducible refine Mi.if_p ?_ ?_); (first | with_reducible assumption | exact rfl | decide | omega))
  | ((with_reducible refine Mi.if_m ?_ ?_); (first | with_reducible assumption | exact rfl | decide | omega))
  | ((with_reducible refine Mi.if_np ?_ ?_); (first | with_reducible assumption | exact rfl | decide | omega))
  | ((with_reducible refine Mi.if_nm ?_ ?_); (first | with_reducible assumption | exact rfl | decide | omega)))
local macro_rules | `(tactic| walk_at "mo") => `(tactic| (walk_at "w"; (repeat (walk_at "wd"; walk_at "w"))))
local macro_rules | `(tactic| walk_at "env") => `(tactic| simp only [envP, envI, List.map_cons, List.map_nil, List.length_cons, List.length_nil, List.replicate, List.cons_append, List.nil_append, Nat.reduceAdd, Nat.reduceSub])

local macro_rules | `(tactic| walk_at "fn") => `(tactic| first | ((with_reducible show Mi.VAL _ _); (with_reducible apply Mi.t_left)) | ((with_reducible show Mi.Sat _ _); (with_reducible refine Mi.w_isiE ?_)) | ((with_reducible show Mi.Sat _ _); (with_reducible refine Mi.w_pkR ?_)) | ((with_reducible show Mi.Sat _ _); (with_reducible refine Mi.w_ext ?_)) | ((with_reducible show Mi.EXT _ _ _ _ _); (with_reducible apply Mi.ext_); (walk_at "side")) | ((with_reducible show Mi.SatA _ _); (with_reducible refine Mi.w_r3 ?_)) | ((with_reducible show Mi.Sat _ _); (first | with_reducible refine Mi.w_lr3 ?_ | with_reducible refine Mi.w_pop ?_ | with_reducible refine Mi.w_sj ?_ | with_reducible refine Mi.w_popAt ?_ | with_reducible refine Mi.w_lstS ?_)) | ((with_reducible show Mi.SatA _ _); (first | with_reducible refine Mi.w_enum ?_)) | ((with_reducible show Mi.TG _ _); (with_reducible apply Mi.tg_l); (exact rfl)) | ((with_reducible show Mi.EN _ _); (with_reducible refine Mi.en_ ?_)) | ((with_reducible show Mi.SJ _ _); (with_reducible apply Mi.sj_); (walk_at "side")))
theorem EX.pn {n : Nat} {k : Bool} {d : PyData} {D : Den} (h : EX n k d D) : Pn n d := by
  induction h with
  | qnum l => exact pn_tup (pna_cons (pn_str (by decide +kernel)) (pna_cons pn_int pna_nil))
  | qwave l ih => exact pn_tup (pna_cons (pn_str (by decide +kernel)) (pna_cons ih pna_nil))
  | @qsum n xs gs e l0 l1 l ih =>
    refine pn_tup (pna_cons (pn_str (by decide +kernel)) (pna_all fun x hx => ?_))
    obtain ⟨i, hi, rfl⟩ := List.getElem_of_mem hx
    exact ih i _ _ (List.getElem?_eq_getElem hi) (List.getElem?_eq_getElem (by omega))
  | qshare l li ld ih => exact pn_tup (pna_cons (pn_str (by decide +kernel)) (pna_cons ih (pna_cons pn_int (pna_cons pn_int pna_nil))))
  | qprod l l2 ld hb ih ih2 => exact pn_tup (pna_cons (pn_str (by decide +kernel)) (pna_cons ih (pna_cons ih2 (pna_cons pn_int pna_nil))))
  | qlater l li ih => exact pn_tup (pna_cons (pn_str (by decide +kernel)) (pna_cons ih (pna_cons pn_int pna_nil)))
  | aturn ls li ld => exact pn_tup (pna_cons (pn_str (by decide +kernel)) (pna_cons pn_int (pna_cons pn_int (pna_cons pn_int pna_nil))))
  | amoved l l2 ih ih2 => exact pn_tup (pna_cons (pn_str (by decide +kernel)) (pna_cons ih (pna_cons ih2 pna_nil)))
  | aminus l l2 ih ih2 => exact pn_tup (pna_cons (pn_str (by decide +kernel)) (pna_cons ih (pna_cons ih2 pna_nil)))
theorem EX.tup {n : Nat} {k : Bool} {d : PyData} {D : Den} (h : EX n k d D) : ∃ xs, d = .tuple xs := by cases h <;> exact ⟨_, rfl⟩
/-- numbers that may be made m times as large -/
inductive Mx (m : Int) : Nat → Bool → PyData → Prop
  | qnum {n i} : Mx m (n + 1) true (.tuple [.str "number", .int i])
  | qwave {n b} (l : Mx m n false b) : Mx m (n + 1) true (.tuple [.str "wave", b])
  | qsum {n xs} (l : ∀ x ∈ xs, Mx m n true x) : Mx m (n + 1) true (.tuple (.str "sum" :: xs))
  | qshare {n b i d} (l : Mx m n true b) : Mx m (n + 1) true (.tuple [.str "share", b, .int i, .int d])
  | qprod {n b c d} (l : Mx m n true b) (l2 : Mx m n true c) : Mx m (n + 1) true (.tuple [.str "product", b, c, .int d])
  | qlater {n b i} (l : Mx m n true b) (li : Lim (i * m)) : Mx m (n + 1) true (.tuple [.str "later", b, .int i])
  | aturn {n s i d} (ld : Dv (d * m)) : Mx m (n + 1) false (.tuple [.str "turning", .int s, .int i, .int d])
  | amoved {n b c} (l : Mx m n false b) (l2 : Mx m n true c) : Mx m (n + 1) false (.tuple [.str "moved", b, c])
  | aminus {n b c} (l : Mx m n false b) (l2 : Mx m n false c) : Mx m (n + 1) false (.tuple [.str "minus", b, c])
def rfin (k : Bool) (n : Nat) : MF := if k = true then r_finer n else r__finer_angle n
def outOf : Mi.Res PyData → PyData
  | .ok d => d
  | _ => .none
theorem W1 : ¬ (("wave" : Str) = "number") ∧ ¬ (("sum" : Str) = "number") ∧ ¬ (("sum" : Str) = "wave") ∧ ¬ (("share" : Str) = "number") ∧ ¬ (("share" : Str) = "wave") ∧ ¬ (("share" : Str) = "sum") ∧ ¬ (("product" : Str) = "number") ∧ ¬ (("product" : Str) = "wave") ∧ ¬ (("product" : Str) = "sum") ∧ ¬ (("product" : Str) = "share") ∧ ¬ (("later" : Str) = "number") ∧ ¬ (("later" : Str) = "wave") ∧ ¬ (("later" : Str) = "sum") ∧ ¬ (("later" : Str) = "share") ∧ ¬ (("later" : Str) = "product") ∧ ¬ (("moved" : Str) = "turning") ∧ ¬ (("minus" : Str) = "turning") ∧ ¬ (("minus" : Str) = "moved") := by decide +kernel
theorem W2 : ¬ (("number" : Str) = "turning") ∧ ¬ (("wave" : Str) = "turning") ∧ ¬ (("sum" : Str) = "turning") ∧ ¬ (("share" : Str) = "turning") ∧ ¬ (("product" : Str) = "turning") ∧ ¬ (("later" : Str) = "turning") ∧ ¬ (("number" : Str) = "later") ∧ ¬ (("wave" : Str) = "later") ∧ ¬ (("sum" : Str) = "later") ∧ ¬ (("share" : Str) = "later") ∧ ¬ (("product" : Str) = "later") ∧ ¬ (("moved" : Str) = "later") ∧ ¬ (("minus" : Str) = "later") := by decide +kernel
/-- what the law does with each part -/
def lpart (n : Nat) (m : Int) (x : PyData) : PyData := match x with
  | .tuple xs => outOf (r__law_finer n [.tuple xs, .int m])
  | y => y
def FinOk (n : Nat) (m : Int) (x : PyData) : Prop := (∃ s, x = .str s) ∨ (∃ i, x = .int i) ∨ ∃ xs, x = .tuple xs ∧ ∃ d', r__law_finer n [.tuple xs, .int m] = .ok d'
set_option maxHeartbeats 8000000 in
theorem law_else {n : Nat} {m : Int} {w : Str} {xs : List PyData} (h1 : ¬ (w = "turning")) (h2 : ¬ (w = "later")) (hl : xs.length ≤ 1000) (h : ∀ x ∈ xs, FinOk n m x) : r__law_finer (n + 1) [.tuple (.str w :: xs), .int m] = .ok (.tuple (.str w :: xs.map (lpart n m))) := by
  rw [r__law_finer_succ]
  refine SatP.eq (run_P ?_)
  walk_at "env"
  unfold q__law_finer
  walk_at "mo"
  refine lc_mt (.str w :: xs) id (lpart n m) (by rw [List.map_id]) (by rw [List.length_cons]; omega) (fun y hy => ?_) ?_
  · have ho : FinOk n m y := by
      rcases List.mem_cons.mp hy with rfl | hy
      · exact .inl ⟨w, rfl⟩
      · exact h y hy
    rw [show id y = y from rfl]
    rcases ho with ⟨s, rfl⟩ | ⟨i, rfl⟩ | ⟨ys, rfl, d', e⟩
    · walk_at "mo"
      refine ⟨_, isi_ts, ?_⟩
      walk_at "mo"
      refine ⟨rfl, ?_⟩
      walk_at "mo"
      rfl
    · walk_at "mo"
      refine ⟨_, isi_ti, ?_⟩
      walk_at "mo"
      refine ⟨rfl, ?_⟩
      walk_at "mo"
      rfl
    · walk_at "mo"
      refine ⟨_, isi_tt, ?_⟩
      walk_at "mo"
      refine satP_of e ?_
      refine ⟨show d' = outOf (r__law_finer n [.tuple ys, .int m]) by rw [e]; rfl, ?_⟩
      walk_at "mo"
      rfl
  · walk_at "mo"
    rfl
structure FINE (m : Int) (n : Nat) (k : Bool) (d : PyData) (D : Den) (d' : PyData) (D' : Den) : Prop where
  ex : EX n k d' D'
  va : ∀ t, D'.val (m * t) = D.val t
  si : D'.size = D.size
  mo : D'.most = D.most
  f1 : ∀ j, n ≤ j → rfin k j [d, .int m] = .ok d'
  f2 : ∀ j, n ≤ j → r__law_finer j [d, .int m] = .ok d'
theorem FINE.lok {m : Int} {n : Nat} {k : Bool} {d d' : PyData} {D D' : Den} (h : FINE m n k d D d' D') (e : EX n k d D) {j : Nat} (hj : n ≤ j) : FinOk j m d ∧ lpart j m d = d' := by
  obtain ⟨xs, rfl⟩ := e.tup
  refine ⟨.inr (.inr ⟨xs, rfl, _, h.f2 j hj⟩), ?_⟩
  show outOf (r__law_finer j [.tuple xs, .int m]) = d'
  rw [h.f2 j hj]
  rfl

end K11

set_option Elab.async false
set_option linter.all false
set_option maxRecDepth 100000
namespace K11
open PySem hiding Env ret
open PySem.Spec PyProof.Rows L2 Mi
/-! the walk over mirrors -/
local macro_rules | `(tactic| walk_at "lk") => `(tactic| first | exact Mi.lk0 | exact Mi.lk1 | exact Mi.lk2 | exact Mi.lk3 | exact Mi.lk4 | exact Mi.lk5 | exact Mi.lk6 | exact Mi.lk7 | exact Mi.lk8 | exact Mi.lk9 | exact Mi.lk10 | exact Mi.lk11 | exact Mi.lk12 | exact Mi.lk13 | exact Mi.lk14 | exact Mi.lk15 | exact Mi.lk16 | exact Mi.lk17 | exact Mi.lk18 | exact Mi.lk19 | exact Mi.lk20 | exact Mi.lk21 | exact Mi.lk22 | exact Mi.lk23 | exact Mi.lk24 | exact Mi.lk25 | exact Mi.lk26 | exact Mi.lk27 | exact Mi.lk28 | exact Mi.lk29 | exact Mi.lk30 | exact Mi.lk31 | exact Mi.lk32 | exact Mi.lk33 | exact Mi.lk34 | exact Mi.lk35 | exact Mi.lk36 | exact Mi.lk37 | exact Mi.lk38 | exact Mi.lk39)
local macro_rules | `(tactic| walk_at "st") => `(tactic| first | with_reducible refine Mi.st0 ?_ | with_reducible refine Mi.st1 ?_ | with_reducible refine Mi.st2 ?_ | with_reducible refine Mi.st3 ?_ | with_reducible refine Mi.st4 ?_ | with_reducible refine Mi.st5 ?_ | with_reducible refine Mi.st6 ?_ | with_reducible refine Mi.st7 ?_ | with_reducible refine Mi.st8 ?_ | with_reducible refine Mi.st9 ?_ | with_reducible refine Mi.st10 ?_ | with_reducible refine Mi.st11 ?_ | with_reducible refine Mi.st12 ?_ | with_reducible refine Mi.st13 ?_ | with_reducible refine Mi.st14 ?_ | with_reducible refine Mi.st15 ?_ | with_reducible refine Mi.st16 ?_ | with_reducible refine Mi.st17 ?_ | with_reducible refine Mi.st18 ?_ | with_reducible refine Mi.st19 ?_ | with_reducible refine Mi.st20 ?_ | with_reducible refine Mi.st21 ?_ | with_reducible refine Mi.st22 ?_ | with_reducible refine Mi.st23 ?_ | with_reducible refine Mi.st24 ?_ | with_reducible refine Mi.st25 ?_ | with_reducible refine Mi.st26 ?_ | with_reducible refine Mi.st27 ?_ | with_reducible refine Mi.st28 ?_ | with_reducible refine Mi.st29 ?_ | with_reducible refine Mi.st30 ?_ | with_reducible refine Mi.st31 ?_ | with_reducible refine Mi.st32 ?_ | with_reducible refine Mi.st33 ?_ | with_reducible refine Mi.st34 ?_ | with_reducible refine Mi.st35 ?_ | with_reducible refine Mi.st36 ?_ | with_reducible refine Mi.st37 ?_ | with_reducible refine Mi.st38 ?_ | with_reducible refine Mi.st39 ?_)
local macro_rules | `(tactic| walk_at "at") => `(tactic| first | with_reducible assumption | exact Rd.at0 | exact Rd.at1 | exact Rd.at2 | exact Rd.at3 | exact Rd.at4)
local macro_rules | `(tactic| walk_at "side") => `(tactic| first | with_reducible assumption | omega | (constructor <;> omega) | (refine Or.inl ⟨?_, ?_⟩ <;> omega) | (refine Or.inr ⟨?_, ?_⟩ <;> omega) | (simp only [List.length_cons, List.length_nil, List.length_append, List.length_map]; omega) | ((refine ⟨⟨?_, ?_⟩, ?_, ?_⟩) <;> omega))
local macro_rules | `(tactic| walk_at "fn") => `(tactic| fail)
local macro_rules | `(tactic| walk_at "w1") => `(tactic| first
  | ((with_reducible show Mi.SatS _ _ _ _ _ _); (first | with_reducible refine Mi.w_seq ?_ | with_reducible refine Mi.w_retIf ?_ | with_reducible refine Mi.w_retX ?_ | with_reducible refine Mi.w_asgX ?_ | with_reducible refine Mi.w_dropX ?_ | with_reducible refine Mi.w_raise ?_ | with_reducible refine Mi.w_asg ?_ | with_reducible refine Mi.w_ifS ?_ | with_reducible refine Mi.w_drop ?_ | with_reducible refine Mi.w_ret ?_ | with_reducible refine Mi.w_next ?_ | with_reducible refine Mi.w_for ?_ | with_reducible refine Mi.w_retN ?_ | with_reducible refine Mi.w_brk ?_ | with_reducible refine Mi.w_cnt ?_ | with_reducible refine Mi.w_while ?_ | with_reducible refine Mi.w_setO ?_))
  | ((with_reducible show Mi.Sat _ _); (first | ((with_reducible apply Mi.w_val); (walk_at "lk")) | with_reducible refine Mi.w_c ?_ | with_reducible refine Mi.w_op ?_ | with_reducible refine Mi.w_call ?_ | with_reducible refine Mi.w_callI ?_ | with_reducible refine Mi.w_tup ?_ | with_reducible refine Mi.w_getV ?_ | with_reducible refine Mi.w_ixV ?_ | ((with_reducible apply Mi.w_pkv); (walk_at "lk")) | with_reducible refine Mi.w_peek ?_ | with_reducible refine Mi.w_cb ?_ | with_reducible refine Mi.w_lst ?_ | with_reducible refine Mi.w_un ?_ | ((with_reducible apply Mi.w_own); (walk_at "lk")) | with_reducible refine Mi.w_andV ?_ | with_reducible refine Mi.w_orV ?_ | with_reducible refine Mi.w_notV ?_ | with_reducible refine Mi.w_if ?_ | with_reducible refine Mi.w_chain ?_ | with_reducible refine Mi.w_sl ?_ | with_reducible refine Mi.w_get ?_ | with_reducible refine Mi.w_d0 ?_ | with_reducible refine Mi.w_dict ?_ | with_reducible refine Mi.w_tupS ?_ | with_reducible refine Mi.w_app ?_ | with_reducible refine Mi.w_lcw ?_ | ((with_reducible apply Mi.w_lenO); (walk_at "lk")) | ((with_reducible apply Mi.w_lenv); (walk_at "lk"))))
  | ((with_reducible show Mi.SatT _ _); (first | with_reducible refine Mi.w_B ?_ | with_reducible refine Mi.w_andT ?_ | with_reducible refine Mi.w_orT ?_ | with_reducible refine Mi.w_notT ?_ | with_reducible refine Mi.w_yes ?_))
  | ((with_reducible show Mi.SatA _ _); (first | with_reducible refine Mi.w_nil ?_ | with_reducible refine Mi.w_cons ?_ | with_reducible refine Mi.w_snil ?_ | with_reducible refine Mi.w_sone ?_ | with_reducible refine Mi.w_sstar ?_ | with_reducible refine Mi.w_r1 ?_ | with_reducible refine Mi.w_r2 ?_ | with_reducible refine Mi.w_itL1 ?_ | with_reducible refine Mi.w_itT1 ?_))
  | ((with_reducible show Mi.VAL _ _); (first | with_reducible apply Mi.v_add | with_reducible apply Mi.v_sub | with_reducible apply Mi.v_eqI | with_reducible apply Mi.v_lt | with_reducible apply Mi.v_le | with_reducible apply Mi.v_gt | with_reducible apply Mi.v_ge | with_reducible apply Mi.v_neI | ((with_reducible apply Mi.v_ixL); (walk_at "at")) | ((with_reducible apply Mi.v_ixT); (walk_at "at")) | ((with_reducible apply Mi.v_mul); (walk_at "side")) | ((with_reducible apply Mi.v_div); (walk_at "side")) | ((with_reducible apply Mi.v_mod); (walk_at "side")) | with_reducible apply Mi.v_neg | with_reducible apply Mi.v_eqS | with_reducible apply Mi.v_eqB | with_reducible apply Mi.v_neS | with_reducible apply Mi.v_neB | with_reducible apply Mi.v_eqNI | with_reducible apply Mi.v_neNI | with_reducible apply Mi.v_isN | with_reducible apply Mi.v_notN | with_reducible apply Mi.v_lenL | with_reducible apply Mi.v_lenT | with_reducible apply Mi.v_abs | with_reducible apply Mi.v_int | with_reducible apply Mi.v_intB | with_reducible apply Mi.v_min2 | with_reducible apply Mi.v_max2 | with_reducible apply Mi.v_tupL | with_reducible apply Mi.v_tupT | with_reducible apply Mi.v_lstL | with_reducible apply Mi.v_lstT | with_reducible apply Mi.v_slT | with_reducible apply Mi.v_slL | ((with_reducible apply Mi.v_pow); (decide)) | ((with_reducible apply Mi.v_catL); (walk_at "side")) | ((with_reducible apply Mi.v_catT); (walk_at "side")) | ((with_reducible apply Mi.v_divmod); (walk_at "side")) | walk_at "fn"))
  | ((with_reducible show Mi.IFV _ _ _); (first | with_reducible refine Mi.if_t ?_ | with_reducible refine Mi.if_f ?_ | with_reducible refine Mi.if_nt ?_ | with_reducible refine Mi.if_nf ?_ | with_reducible refine Mi.if_n1 ?_ | with_reducible refine Mi.if_n2 ?_ | with_reducible refine Mi.if_n3 ?_ | with_reducible refine Mi.if_n4 ?_ | with_reducible refine Mi.if_n5 ?_ | with_reducible refine Mi.if_n6 ?_))
  | ((with_reducible show Mi.SETS _ _); (first | walk_at "st" | (with_reducible refine Mi.put_own (by walk_at "lk") ?_) | (with_reducible refine Mi.put_io (by walk_at "lk") ?_)))
  | ((with_reducible show Mi.TG _ _); (first | ((with_reducible apply Mi.tg_n); (exact rfl)) | ((with_reducible apply Mi.tg_t); (exact rfl))))
  | ((with_reducible show Mi.TGS _ _); (first | with_reducible refine Mi.tgs_cons ?_ | with_reducible refine Mi.tgs_nil ?_))
  | ((with_reducible show Mi.LCB _ _ _); (with_reducible apply Mi.lcb); (exact rfl))
  | ((with_reducible show Mi.WIPE _ _); (first | with_reducible refine Mi.wp1 ?_ | with_reducible refine Mi.wp2 ?_ | ((with_reducible refine Mi.rs1 ?_ ?_); (walk_at "lk")) | ((with_reducible refine Mi.rs1v (d := ?_) ?_ ?_); (walk_at "lk")) | ((with_reducible refine Mi.rs2 ?_ ?_ ?_); (walk_at "lk"); (walk_at "lk"))))
  | ((with_reducible show Mi.SETO _ _ _ _); (with_reducible apply Mi.seto); (exact rfl))
  | with_reducible refine Mi.isl ?_
  | ((with_reducible show Mi.APP _ _ _ _ _); (with_reducible apply Mi.app_); (walk_at "side"))
  | ((with_reducible show Mi.LEQ _ _); (with_reducible apply Mi.leq); (walk_at "side"))
  | with_reducible refine Mi.isls ?_
  | with_reducible refine Mi.ists ?_
  | ((with_reducible show Mi.R1 _ _); (with_reducible apply Mi.r1_); (walk_at "side"))
  | ((with_reducible show Mi.R2 _ _); (with_reducible apply Mi.r2_); (walk_at "side"))
  | with_reducible refine Mi.prt ?_
  | with_reducible refine Mi.w_part ?_
  | with_reducible refine Mi.bl_ ?_
  | ((with_reducible show Mi.MU _ _); (with_reducible apply Mi.mu_own); (walk_at "lk"))
  | ((with_reducible show Mi.MU _ _); (with_reducible apply Mi.mu_io); (walk_at "lk"))
  | with_reducible refine Mi.dl_cons ?_
  | with_reducible refine Mi.dl_nil ?_
  | with_reducible refine Mi.w_none ?_
  | with_reducible refine Mi.io_of ?_
  | with_reducible refine Mi.w_itT ?_
  | with_reducible refine Mi.w_itL ?_
  | walk_at "fn")
local macro_rules | `(tactic| walk_at "w") => `(tactic| repeat (walk_at "w1"))
local macro_rules | `(tactic| walk_at "wd") => `(tactic| first
  | ((with_reducible refine Mi.if_p ?_ ?_); (first | with_reducible assumption | exact rfl | decide | omega))
  | ((with_reducible refine Mi.if_m ?_ ?_); (first | with_reducible assumption | exact rfl | decide | omega))
  | ((with_reducible refine Mi.if_np ?_ ?_); (first | with_reducible assumption | exact rfl | decide | omega))
  | ((with_reducible refine Mi.if_nm ?_ ?_); (first | with_reducible assumption | exact rfl | decide | omega)))
local macro_rules | `(tactic| walk_at "mo") => `(tactic| (walk_at "w"; (repeat (walk_at "wd"; walk_at "w"))))
local macro_rules | `(tactic| walk_at "env") => `(tactic| simp only [envP, envI, List.map_cons, List.map_nil, List.length_cons, List.length_nil, List.replicate, List.cons_append, List.nil_append, Nat.reduceAdd, Nat.reduceSub])

local macro_rules | `(tactic| walk_at "fn") => `(tactic| first | ((with_reducible show Mi.VAL _ _); (with_reducible apply Mi.t_left)) | ((with_reducible show Mi.Sat _ _); (with_reducible refine Mi.w_isiE ?_)) | ((with_reducible show Mi.Sat _ _); (with_reducible refine Mi.w_pkR ?_)) | ((with_reducible show Mi.Sat _ _); (with_reducible refine Mi.w_ext ?_)) | ((with_reducible show Mi.EXT _ _ _ _ _); (with_reducible apply Mi.ext_); (walk_at "side")) | ((with_reducible show Mi.SatA _ _); (with_reducible refine Mi.w_r3 ?_)) | ((with_reducible show Mi.Sat _ _); (first | with_reducible refine Mi.w_lr3 ?_ | with_reducible refine Mi.w_pop ?_ | with_reducible refine Mi.w_sj ?_ | with_reducible refine Mi.w_popAt ?_ | with_reducible refine Mi.w_lstS ?_)) | ((with_reducible show Mi.SatA _ _); (first | with_reducible refine Mi.w_enum ?_)) | ((with_reducible show Mi.TG _ _); (with_reducible apply Mi.tg_l); (exact rfl)) | ((with_reducible show Mi.EN _ _); (with_reducible refine Mi.en_ ?_)) | ((with_reducible show Mi.SJ _ _); (with_reducible apply Mi.sj_); (walk_at "side")))
theorem list_ex {α β γ : Type} (P : α → β → γ → Prop) : ∀ (xs : List α) (ys : List β), xs.length = ys.length → (∀ (i : Nat) x y, xs[i]? = some x → ys[i]? = some y → ∃ z, P x y z) → ∃ zs : List γ, zs.length = ys.length ∧ ∀ (i : Nat) x y, xs[i]? = some x → ys[i]? = some y → ∃ z, zs[i]? = some z ∧ P x y z
  | [], [], _, _ => ⟨[], rfl, fun i x y h => by simp at h⟩
  | x :: xs, y :: ys, e, h => by
    obtain ⟨zs, hl, hz⟩ := list_ex P xs ys (by simpa using e) fun i a b ha hb => h (i + 1) a b (by simpa using ha) (by simpa using hb)
    obtain ⟨z, hP⟩ := h 0 x y rfl rfl
    refine ⟨z :: zs, by rw [List.length_cons, List.length_cons, hl], fun i a b ha hb => ?_⟩
    cases i with
    | zero => cases ha; cases hb; exact ⟨z, rfl, hP⟩
    | succ i => obtain ⟨w, hw, hp⟩ := hz i a b (by simpa using ha) (by simpa using hb); exact ⟨w, by simpa using hw, hp⟩
theorem map_eq_of {α β γ : Type} {f : α → γ} {g : β → γ} {xs : List α} {ys : List β} (hl : xs.length = ys.length) (h : ∀ (i : Nat) x y, xs[i]? = some x → ys[i]? = some y → f x = g y) : xs.map f = ys.map g := by
  refine List.ext_getElem (by rw [List.length_map, List.length_map, hl]) fun i h1 h2 => ?_
  rw [List.length_map] at h1 h2
  rw [List.getElem_map, List.getElem_map]
  exact h i _ _ (List.getElem?_eq_getElem h1) (List.getElem?_eq_getElem h2)
def fF (n : Nat) (m : Int) (x : PyData) : PyData := outOf (r_finer n [x, .int m])
theorem rfin_t (n : Nat) : rfin true n = r_finer n := rfl
theorem rfin_f (n : Nat) : rfin false n = r__finer_angle n := rfl
set_option maxHeartbeats 16000000 in
theorem fine_all {m : Int} (m0 : 1 ≤ m) (m1 : m ≤ 40) {n : Nat} {k : Bool} {d : PyData} {D : Den} (h : EX n k d D) : Mx m n k d → ∃ d' D', FINE m n k d D d' D' := by
  obtain ⟨a1, a2, a3, a4, a5, a6, a7, a8, a9, a10, a11, a12, a13, a14, a15, a16, a17, a18⟩ := W1
  obtain ⟨b1, b2, b3, b4, b5, b6, b7, b8, b9, b10, b11, b12, b13⟩ := W2
  induction h with
  | @qnum n i l =>
    intro _
    refine ⟨_, _, .qnum l, fun _ => rfl, rfl, rfl, fun j hj => ?_, fun j hj => ?_⟩
    · obtain ⟨j, rfl⟩ : ∃ j', j = j' + 1 := ⟨j - 1, by omega⟩
      rw [rfin_t, r_finer_succ]
      refine SatP.eq (run_P ?_)
      walk_at "env"
      unfold q_finer
      walk_at "mo"
      rfl
    · obtain ⟨j, rfl⟩ : ∃ j', j = j' + 1 := ⟨j - 1, by omega⟩
      exact law_else (xs := [.int i]) b1 b7 (by simp) fun x hx => by rw [List.mem_singleton] at hx; subst hx; exact .inr (.inl ⟨_, rfl⟩)
  | @qwave n b g l ih =>
    intro hm
    cases hm with
    | qwave hb =>
      obtain ⟨b', g', hF⟩ := ih hb
      refine ⟨_, _, .qwave hF.ex, fun t => by show wave (g'.val (m * t)) = wave (g.val t); rw [hF.va], by show g'.size + 1 = g.size + 1; rw [hF.si], rfl, fun j hj => ?_, fun j hj => ?_⟩
      · obtain ⟨j, rfl⟩ : ∃ j', j = j' + 1 := ⟨j - 1, by omega⟩
        have e := hF.f1 j (by omega)
        rw [rfin_f] at e
        rw [rfin_t, r_finer_succ]
        refine SatP.eq (run_P ?_)
        walk_at "env"
        unfold q_finer
        walk_at "mo"
        refine satP_of e ?_
        walk_at "mo"
        rfl
      · obtain ⟨j, rfl⟩ : ∃ j', j = j' + 1 := ⟨j - 1, by omega⟩
        obtain ⟨o1, o2⟩ := hF.lok l (j := j) (by omega)
        have := law_else (xs := [b]) (w := "wave") b2 b8 (by simp) (n := j) (m := m) fun x hx => by rw [List.mem_singleton] at hx; subst hx; exact o1
        rw [this, List.map_cons, List.map_nil, o2]
  | @qsum n xs gs e l0 l1 l ih =>
    intro hm
    cases hm with
    | qsum hb =>
      obtain ⟨gs', hl, hz⟩ := list_ex (fun x g g' => FINE m n true x g (fF n m x) g') xs gs e fun i x g hx hg => by
        obtain ⟨d', D', hF⟩ := ih i x g hx hg (hb x (List.mem_of_getElem? hx))
        have : fF n m x = d' := by
          unfold fF
          have e := hF.f1 n (Nat.le_refl _)
          rw [rfin_t] at e
          rw [e]
          rfl
        exact ⟨D', by rw [this]; exact hF⟩
      have each : ∀ x ∈ xs, ∃ g g', EX n true x g ∧ FINE m n true x g (fF n m x) g' := fun x hx => by
        obtain ⟨i, hi, rfl⟩ := List.getElem_of_mem hx
        obtain ⟨g', _, hF⟩ := hz i _ _ (List.getElem?_eq_getElem hi) (List.getElem?_eq_getElem (by omega))
        exact ⟨_, g', l i _ _ (List.getElem?_eq_getElem hi) (List.getElem?_eq_getElem (by omega)), hF⟩
      have ev : ∀ {γ : Type} (f f' : Den → γ), (∀ x g g', FINE m n true x g (fF n m x) g' → f' g' = f g) → gs'.map f' = gs.map f := fun f f' h => map_eq_of hl fun i x y hx hy => by
        have hi : i < xs.length := by have := (List.getElem?_eq_some_iff.mp hy).1; omega
        obtain ⟨g', hg', hF⟩ := hz i _ y (List.getElem?_eq_getElem hi) hy
        rw [hx] at hg'
        cases hg'
        exact h _ _ _ hF
      refine ⟨.tuple (.str "sum" :: xs.map (fF n m)), dSum gs', .qsum (xs := xs.map (fF n m)) (by rw [List.length_map, hl, e]) (by rw [List.length_map]; exact l0) (by rw [List.length_map]; exact l1) (fun i x g hx hg => ?_), fun t => ?_, ?_, ?_, fun j hj => ?_, fun j hj => ?_⟩
      · rw [List.getElem?_map] at hx
        cases zx : xs[i]? with
        | none => rw [zx] at hx; cases hx
        | some x0 =>
          rw [zx] at hx
          cases hx
          have hi : i < gs.length := by have := (List.getElem?_eq_some_iff.mp zx).1; omega
          obtain ⟨g', hg', hF⟩ := hz i _ _ zx (List.getElem?_eq_getElem hi)
          rw [hg] at hg'
          cases hg'
          exact hF.ex
      · show (gs'.map fun v => v.val (m * t)).sum = (gs.map fun v => v.val t).sum
        rw [ev (fun v => v.val t) (fun v => v.val (m * t)) fun x g g' hF => hF.va t]
      · show (gs'.map fun v => v.size).sum + 1 = (gs.map fun v => v.size).sum + 1
        rw [ev (fun v => v.size) (fun v => v.size) fun x g g' hF => hF.si]
      · show (gs'.map fun v => v.most).sum = (gs.map fun v => v.most).sum
        rw [ev (fun v => v.most) (fun v => v.most) fun x g g' hF => hF.mo]
      · obtain ⟨j, rfl⟩ : ∃ j', j = j' + 1 := ⟨j - 1, by omega⟩
        rw [rfin_t, r_finer_succ]
        refine SatP.eq (run_P ?_)
        walk_at "env"
        unfold q_finer
        walk_at "mo"
        rw [cut_from1]
        refine lc_mt xs id (fF n m) (by rw [List.map_id]; rfl) (by omega) (fun y hy => ?_) ?_
        · obtain ⟨g, g', _, hF⟩ := each y hy
          have e := hF.f1 j (by omega)
          rw [rfin_t] at e
          walk_at "mo"
          refine satP_of e ?_
          refine ⟨rfl, ?_⟩
          walk_at "mo"
          rfl
        · walk_at "mo"
          rw [List.append_nil]
      · obtain ⟨j, rfl⟩ : ∃ j', j = j' + 1 := ⟨j - 1, by omega⟩
        have := law_else (xs := xs) (w := "sum") b3 b9 (by omega) (n := j) (m := m) fun x hx => by
          obtain ⟨g, g', he, hF⟩ := each x hx
          exact (hF.lok he (by omega)).1
        rw [this]
        have : xs.map (lpart j m) = xs.map (fF n m) := List.map_congr_left fun x hx => by
          obtain ⟨g, g', he, hF⟩ := each x hx
          exact (hF.lok he (by omega)).2
        rw [this]
  | @qshare n b g i d l li ld ih =>
    intro hm
    cases hm with
    | qshare hb =>
      obtain ⟨b', g', hF⟩ := ih hb
      refine ⟨_, _, .qshare hF.ex li ld, fun t => by show g'.val (m * t) * i / d = g.val t * i / d; rw [hF.va], by show g'.size + 1 = g.size + 1; rw [hF.si], by show rup (g'.most * ab i) d = rup (g.most * ab i) d; rw [hF.mo], fun j hj => ?_, fun j hj => ?_⟩
      · obtain ⟨j, rfl⟩ : ∃ j', j = j' + 1 := ⟨j - 1, by omega⟩
        have e := hF.f1 j (by omega)
        rw [rfin_t] at e
        rw [rfin_t, r_finer_succ]
        refine SatP.eq (run_P ?_)
        walk_at "env"
        unfold q_finer
        walk_at "mo"
        refine satP_of e ?_
        walk_at "mo"
        rfl
      · obtain ⟨j, rfl⟩ : ∃ j', j = j' + 1 := ⟨j - 1, by omega⟩
        obtain ⟨o1, o2⟩ := hF.lok l (j := j) (by omega)
        have := law_else (xs := [b, .int i, .int d]) (w := "share") b4 b10 (by simp) (n := j) (m := m) fun x hx => by
          simp only [List.mem_cons, List.not_mem_nil, or_false] at hx
          rcases hx with rfl | rfl | rfl
          · exact o1
          · exact .inr (.inl ⟨_, rfl⟩)
          · exact .inr (.inl ⟨_, rfl⟩)
        rw [this, List.map_cons, o2]
        rfl
  | @qprod n b c g f d l l2 ld hbm ih ih2 =>
    intro hm
    cases hm with
    | qprod hb hc =>
      obtain ⟨b', g', hF⟩ := ih hb
      obtain ⟨c', f', hG⟩ := ih2 hc
      refine ⟨_, _, .qprod hF.ex hG.ex ld ⟨by rw [hF.mo]; exact hbm.1, by rw [hG.mo]; exact hbm.2⟩, fun t => by show g'.val (m * t) * f'.val (m * t) / d = g.val t * f.val t / d; rw [hF.va, hG.va], by show g'.size + f'.size + 1 = g.size + f.size + 1; rw [hF.si, hG.si], by show rup (g'.most * f'.most) d = rup (g.most * f.most) d; rw [hF.mo, hG.mo], fun j hj => ?_, fun j hj => ?_⟩
      · obtain ⟨j, rfl⟩ : ∃ j', j = j' + 1 := ⟨j - 1, by omega⟩
        have e := hF.f1 j (by omega)
        have e2 := hG.f1 j (by omega)
        rw [rfin_t] at e e2
        rw [rfin_t, r_finer_succ]
        refine SatP.eq (run_P ?_)
        walk_at "env"
        unfold q_finer
        walk_at "mo"
        refine satP_of e ?_
        walk_at "mo"
        refine satP_of e2 ?_
        walk_at "mo"
        rfl
      · obtain ⟨j, rfl⟩ : ∃ j', j = j' + 1 := ⟨j - 1, by omega⟩
        obtain ⟨o1, o2⟩ := hF.lok l (j := j) (by omega)
        obtain ⟨p1, p2⟩ := hG.lok l2 (j := j) (by omega)
        have := law_else (xs := [b, c, .int d]) (w := "product") b5 b11 (by simp) (n := j) (m := m) fun x hx => by
          simp only [List.mem_cons, List.not_mem_nil, or_false] at hx
          rcases hx with rfl | rfl | rfl
          · exact o1
          · exact p1
          · exact .inr (.inl ⟨_, rfl⟩)
        rw [this, List.map_cons, List.map_cons, o2, p2]
        rfl
  | @qlater n b g i l li ih =>
    intro hm
    cases hm with
    | qlater hb hli =>
      obtain ⟨b', g', hF⟩ := ih hb
      obtain ⟨l1, l2⟩ := li
      refine ⟨_, _, .qlater (i := i * m) hF.ex hli, fun t => by show g'.val (m * t + i * m) = g.val (t + i); rw [show m * t + i * m = m * (t + i) by rw [Int.mul_add, Int.mul_comm i m], hF.va], hF.si, hF.mo, fun j hj => ?_, fun j hj => ?_⟩
      · obtain ⟨j, rfl⟩ : ∃ j', j = j' + 1 := ⟨j - 1, by omega⟩
        have e := hF.f1 j (by omega)
        rw [rfin_t] at e
        rw [rfin_t, r_finer_succ]
        refine SatP.eq (run_P ?_)
        walk_at "env"
        unfold q_finer
        walk_at "mo"
        refine satP_of e ?_
        walk_at "mo"
        rfl
      · obtain ⟨j, rfl⟩ : ∃ j', j = j' + 1 := ⟨j - 1, by omega⟩
        have e := hF.f2 j (by omega)
        rw [r__law_finer_succ]
        refine SatP.eq (run_P ?_)
        walk_at "env"
        unfold q__law_finer
        walk_at "mo"
        refine satP_of e ?_
        walk_at "mo"
        rfl
  | @aturn n s i d ls li ld =>
    intro hm
    cases hm with
    | aturn hd =>
      obtain ⟨l1, l2⟩ := ld
      refine ⟨_, _, .aturn (d := d * m) ls li hd, fun t => by
        show s + i * (m * t) / (d * m) = s + i * t / d
        rw [show i * (m * t) = i * t * m by rw [Int.mul_comm m t, Int.mul_assoc], Int.mul_ediv_mul_of_pos_left _ _ (by omega)], rfl, rfl, fun j hj => ?_, fun j hj => ?_⟩
      · obtain ⟨j, rfl⟩ : ∃ j', j = j' + 1 := ⟨j - 1, by omega⟩
        rw [rfin_f, r__finer_angle_succ]
        refine SatP.eq (run_P ?_)
        walk_at "env"
        unfold q__finer_angle
        walk_at "mo"
        rfl
      · obtain ⟨j, rfl⟩ : ∃ j', j = j' + 1 := ⟨j - 1, by omega⟩
        rw [r__law_finer_succ]
        refine SatP.eq (run_P ?_)
        walk_at "env"
        unfold q__law_finer
        walk_at "mo"
        rw [show Mi.cutD [PyData.str "turning", .int s, .int i, .int d] none (some 3) = [.str "turning", .int s, .int i] from rfl]
        walk_at "mo"
        rfl
  | @amoved n b c g f l l2 ih ih2 =>
    intro hm
    cases hm with
    | amoved hb hc =>
      obtain ⟨b', g', hF⟩ := ih hb
      obtain ⟨c', f', hG⟩ := ih2 hc
      refine ⟨_, _, .amoved hF.ex hG.ex, fun t => by show g'.val (m * t) + f'.val (m * t) = g.val t + f.val t; rw [hF.va, hG.va], by show g'.size + f'.size + 1 = g.size + f.size + 1; rw [hF.si, hG.si], rfl, fun j hj => ?_, fun j hj => ?_⟩
      · obtain ⟨j, rfl⟩ : ∃ j', j = j' + 1 := ⟨j - 1, by omega⟩
        have e := hF.f1 j (by omega)
        have e2 := hG.f1 j (by omega)
        rw [rfin_f] at e
        rw [rfin_t] at e2
        rw [rfin_f, r__finer_angle_succ]
        refine SatP.eq (run_P ?_)
        walk_at "env"
        unfold q__finer_angle
        walk_at "mo"
        refine satP_of e ?_
        walk_at "mo"
        refine satP_of e2 ?_
        walk_at "mo"
        rfl
      · obtain ⟨j, rfl⟩ : ∃ j', j = j' + 1 := ⟨j - 1, by omega⟩
        obtain ⟨o1, o2⟩ := hF.lok l (j := j) (by omega)
        obtain ⟨p1, p2⟩ := hG.lok l2 (j := j) (by omega)
        have := law_else (xs := [b, c]) (w := "moved") a16 b12 (by simp) (n := j) (m := m) fun x hx => by
          simp only [List.mem_cons, List.not_mem_nil, or_false] at hx
          rcases hx with rfl | rfl
          · exact o1
          · exact p1
        rw [this, List.map_cons, List.map_cons, o2, p2]
        rfl
  | @aminus n b c g f l l2 ih ih2 =>
    intro hm
    cases hm with
    | aminus hb hc =>
      obtain ⟨b', g', hF⟩ := ih hb
      obtain ⟨c', f', hG⟩ := ih2 hc
      refine ⟨_, _, .aminus hF.ex hG.ex, fun t => by show g'.val (m * t) - f'.val (m * t) = g.val t - f.val t; rw [hF.va, hG.va], by show g'.size + f'.size + 1 = g.size + f.size + 1; rw [hF.si, hG.si], rfl, fun j hj => ?_, fun j hj => ?_⟩
      · obtain ⟨j, rfl⟩ : ∃ j', j = j' + 1 := ⟨j - 1, by omega⟩
        have e := hF.f1 j (by omega)
        have e2 := hG.f1 j (by omega)
        rw [rfin_f] at e e2
        rw [rfin_f, r__finer_angle_succ]
        refine SatP.eq (run_P ?_)
        walk_at "env"
        unfold q__finer_angle
        walk_at "mo"
        refine satP_of e ?_
        walk_at "mo"
        refine satP_of e2 ?_
        walk_at "mo"
        rfl
      · obtain ⟨j, rfl⟩ : ∃ j', j = j' + 1 := ⟨j - 1, by omega⟩
        obtain ⟨o1, o2⟩ := hF.lok l (j := j) (by omega)
        obtain ⟨p1, p2⟩ := hG.lok l2 (j := j) (by omega)
        have := law_else (xs := [b, c]) (w := "minus") a17 b13 (by simp) (n := j) (m := m) fun x hx => by
          simp only [List.mem_cons, List.not_mem_nil, or_false] at hx
          rcases hx with rfl | rfl
          · exact o1
          · exact p1
        rw [this, List.map_cons, List.map_cons, o2, p2]
        rfl

end K11

set_option Elab.async false
set_option linter.all false
set_option maxRecDepth 100000
namespace K11
open PySem hiding Env ret
open PySem.Spec PyProof.Rows L2 Mi
/-! the walk over mirrors -/
local macro_rules | `(tactic| walk_at "lk") => `(tactic| first | exact Mi.lk0 | exact Mi.lk1 | exact Mi.lk2 | exact Mi.lk3 | exact Mi.lk4 | exact Mi.lk5 | exact Mi.lk6 | exact Mi.lk7 | exact Mi.lk8 | exact Mi.lk9 | exact Mi.lk10 | exact Mi.lk11 | exact Mi.lk12 | exact Mi.lk13 | exact Mi.lk14 | exact Mi.lk15 | exact Mi.lk16 | exact Mi.lk17 | exact Mi.lk18 | exact Mi.lk19 | exact Mi.lk20 | exact Mi.lk21 | exact Mi.lk22 | exact Mi.lk23 | exact Mi.lk24 | exact Mi.lk25 | exact Mi.lk26 | exact Mi.lk27 | exact Mi.lk28 | exact Mi.lk29 | exact Mi.lk30 | exact Mi.lk31 | exact Mi.lk32 | exact Mi.lk33 | exact Mi.lk34 | exact Mi.lk35 | exact Mi.lk36 | exact Mi.lk37 | exact Mi.lk38 | exact Mi.lk39)
local macro_rules | `(tactic| walk_at "st") => `(tactic| first | with_reducible refine Mi.st0 ?_ | with_reducible refine Mi.st1 ?_ | with_reducible refine Mi.st2 ?_ | with_reducible refine Mi.st3 ?_ | with_reducible refine Mi.st4 ?_ | with_reducible refine Mi.st5 ?_ | with_reducible refine Mi.st6 ?_ | with_reducible refine Mi.st7 ?_ | with_reducible refine Mi.st8 ?_ | with_reducible refine Mi.st9 ?_ | with_reducible refine Mi.st10 ?_ | with_reducible refine Mi.st11 ?_ | with_reducible refine Mi.st12 ?_ | with_reducible refine Mi.st13 ?_ | with_reducible refine Mi.st14 ?_ | with_reducible refine Mi.st15 ?_ | with_reducible refine Mi.st16 ?_ | with_reducible refine Mi.st17 ?_ | with_reducible refine Mi.st18 ?_ | with_reducible refine Mi.st19 ?_ | with_reducible refine Mi.st20 ?_ | with_reducible refine Mi.st21 ?_ | with_reducible refine Mi.st22 ?_ | with_reducible refine Mi.st23 ?_ | with_reducible refine Mi.st24 ?_ | with_reducible refine Mi.st25 ?_ | with_reducible refine Mi.st26 ?_ | with_reducible refine Mi.st27 ?_ | with_reducible refine Mi.st28 ?_ | with_reducible refine Mi.st29 ?_ | with_reducible refine Mi.st30 ?_ | with_reducible refine Mi.st31 ?_ | with_reducible refine Mi.st32 ?_ | with_reducible refine Mi.st33 ?_ | with_reducible refine Mi.st34 ?_ | with_reducible refine Mi.st35 ?_ | with_reducible refine Mi.st36 ?_ | with_reducible refine Mi.st37 ?_ | with_reducible refine Mi.st38 ?_ | with_reducible refine Mi.st39 ?_)
local macro_rules | `(tactic| walk_at "at") => `(tactic| first | with_reducible assumption | exact Rd.at0 | exact Rd.at1 | exact Rd.at2 | exact Rd.at3 | exact Rd.at4)
local macro_rules | `(tactic| walk_at "side") => `(tactic| first | with_reducible assumption | omega | (constructor <;> omega) | (refine Or.inl ⟨?_, ?_⟩ <;> omega) | (refine Or.inr ⟨?_, ?_⟩ <;> omega) | (simp only [List.length_cons, List.length_nil, List.length_append, List.length_map]; omega) | ((refine ⟨⟨?_, ?_⟩, ?_, ?_⟩) <;> omega))
local macro_rules | `(tactic| walk_at "fn") => `(tactic| fail)
local macro_rules | `(tactic| walk_at "w1") => `(tactic| first
  | ((with_reducible show Mi.SatS _ _ _ _ _ _); (first | with_reducible refine Mi.w_seq ?_ | with_reducible refine Mi.w_retIf ?_ | with_reducible refine Mi.w_retX ?_ | with_reducible refine Mi.w_asgX ?_ | with_reducible refine Mi.w_dropX ?_ | with_reducible refine Mi.w_raise ?_ | with_reducible refine Mi.w_asg ?_ | with_reducible refine Mi.w_ifS ?_ | with_reducible refine Mi.w_drop ?_ | with_reducible refine Mi.w_ret ?_ | with_reducible refine Mi.w_next ?_ | with_reducible refine Mi.w_for ?_ | with_reducible refine Mi.w_retN ?_ | with_reducible refine Mi.w_brk ?_ | with_reducible refine Mi.w_cnt ?_ | with_reducible refine Mi.w_while ?_ | with_reducible refine Mi.w_setO ?_))
  | ((with_reducible show Mi.Sat _ _); (first | ((with_reducible apply Mi.w_val); (walk_at "lk")) | with_reducible refine Mi.w_c ?_ | with_reducible refine Mi.w_op ?_ | with_reducible refine Mi.w_call ?_ | with_reducible refine Mi.w_callI ?_ | with_reducible refine Mi.w_tup ?_ | with_reducible refine Mi.w_getV ?_ | with_reducible refine Mi.w_ixV ?_ | ((with_reducible apply Mi.w_pkv); (walk_at "lk")) | with_reducible refine Mi.w_peek ?_ | with_reducible refine Mi.w_cb ?_ | with_reducible refine Mi.w_lst ?_ | with_reducible refine Mi.w_un ?_ | ((with_reducible apply Mi.w_own); (walk_at "lk")) | with_reducible refine Mi.w_andV ?_ | with_reducible refine Mi.w_orV ?_ | with_reducible refine Mi.w_notV ?_ | with_reducible refine Mi.w_if ?_ | with_reducible refine Mi.w_chain ?_ | with_reducible refine Mi.w_sl ?_ | with_reducible refine Mi.w_get ?_ | with_reducible refine Mi.w_d0 ?_ | with_reducible refine Mi.w_dict ?_ | with_reducible refine Mi.w_tupS ?_ | with_reducible refine Mi.w_app ?_ | with_reducible refine Mi.w_lcw ?_ | ((with_reducible apply Mi.w_lenO); (walk_at "lk")) | ((with_reducible apply Mi.w_lenv); (walk_at "lk"))))
  | ((with_reducible show Mi.SatT _ _); (first | with_reducible refine Mi.w_B ?_ | with_reducible refine Mi.w_andT ?_ | with_reducible refine Mi.w_orT ?_ | with_reducible refine Mi.w_notT ?_ | with_reducible refine Mi.w_yes ?_))
  | ((with_reducible show Mi.SatA _ _); (first | with_reducible refine Mi.w_nil ?_ | with_reducible refine Mi.w_cons ?_ | with_reducible refine Mi.w_snil ?_ | with_reducible refine Mi.w_sone ?_ | with_reducible refine Mi.w_sstar ?_ | with_reducible refine Mi.w_r1 ?_ | with_reducible refine Mi.w_r2 ?_ | with_reducible refine Mi.w_itL1 ?_ | with_reducible refine Mi.w_itT1 ?_))
  | ((with_reducible show Mi.VAL _ _); (first | with_reducible apply Mi.v_add | with_reducible apply Mi.v_sub | with_reducible apply Mi.v_eqI | with_reducible apply Mi.v_lt | with_reducible apply Mi.v_le | with_reducible apply Mi.v_gt | with_reducible apply Mi.v_ge | with_reducible apply Mi.v_neI | ((with_reducible apply Mi.v_ixL); (walk_at "at")) | ((with_reducible apply Mi.v_ixT); (walk_at "at")) | ((with_reducible apply Mi.v_mul); (walk_at "side")) | ((with_reducible apply Mi.v_div); (walk_at "side")) | ((with_reducible apply Mi.v_mod); (walk_at "side")) | with_reducible apply Mi.v_neg | with_reducible apply Mi.v_eqS | with_reducible apply Mi.v_eqB | with_reducible apply Mi.v_neS | with_reducible apply Mi.v_neB | with_reducible apply Mi.v_eqNI | with_reducible apply Mi.v_neNI | with_reducible apply Mi.v_isN | with_reducible apply Mi.v_notN | with_reducible apply Mi.v_lenL | with_reducible apply Mi.v_lenT | with_reducible apply Mi.v_abs | with_reducible apply Mi.v_int | with_reducible apply Mi.v_intB | with_reducible apply Mi.v_min2 | with_reducible apply Mi.v_max2 | with_reducible apply Mi.v_tupL | with_reducible apply Mi.v_tupT | with_reducible apply Mi.v_lstL | with_reducible apply Mi.v_lstT | with_reducible apply Mi.v_slT | with_reducible apply Mi.v_slL | ((with_reducible apply Mi.v_pow); (decide)) | ((with_reducible apply Mi.v_catL); (walk_at "side")) | ((with_reducible apply Mi.v_catT); (walk_at "side")) | ((with_reducible apply Mi.v_divmod); (walk_at "side")) | walk_at "fn"))
  | ((with_reducible show Mi.IFV _ _ _); (first | with_reducible refine Mi.if_t ?_ | with_reducible refine Mi.if_f ?_ | with_reducible refine Mi.if_nt ?_ | with_reducible refine Mi.if_nf ?_ | with_reducible refine Mi.if_n1 ?_ | with_reducible refine Mi.if_n2 ?_ | with_reducible refine Mi.if_n3 ?_ | with_reducible refine Mi.if_n4 ?_ | with_reducible refine Mi.if_n5 ?_ | with_reducible refine Mi.if_n6 ?_))
  | ((with_reducible show Mi.SETS _ _); (first | walk_at "st" | (with_reducible refine Mi.put_own (by walk_at "lk") ?_) | (with_reducible refine Mi.put_io (by walk_at "lk") ?_)))
  | ((with_reducible show Mi.TG _ _); (first | ((with_reducible apply Mi.tg_n); (exact rfl)) | ((with_reducible apply Mi.tg_t); (exact rfl))))
  | ((with_reducible show Mi.TGS _ _); (first | with_reducible refine Mi.tgs_cons ?_ | with_reducible refine Mi.tgs_nil ?_))
  | ((with_reducible show Mi.LCB _ _ _); (with_reducible apply Mi.lcb); (exact rfl))
  | ((with_reducible show Mi.WIPE _ _); (first | with_reducible refine Mi.wp1 ?_ | with_reducible refine Mi.wp2 ?_ | ((with_reducible refine Mi.rs1 ?_ ?_); (walk_at "lk")) | ((with_reducible refine Mi.rs1v (d := ?_) ?_ ?_); (walk_at "lk")) | ((with_reducible refine Mi.rs2 ?_ ?_ ?_); (walk_at "lk"); (walk_at "lk"))))
  | ((with_reducible show Mi.SETO _ _ _ _); (with_reducible apply Mi.seto); (exact rfl))
  | with_reducible refine Mi.isl ?_
  | ((with_reducible show Mi.APP _ _ _ _ _); (with_reducible apply Mi.app_); (walk_at "side"))
  | ((with_reducible show Mi.LEQ _ _); (with_reducible apply Mi.leq); (walk_at "side"))
  | with_reducible refine Mi.isls ?_
  | with_reducible refine Mi.ists ?_
  | ((with_reducible show Mi.R1 _ _); (with_reducible apply Mi.r1_); (walk_at "side"))
  | ((with_reducible show Mi.R2 _ _); (with_reducible apply Mi.r2_); (walk_at "side"))
  | with_reducible refine Mi.prt ?_
  | with_reducible refine Mi.w_part ?_
  | with_reducible refine Mi.bl_ ?_
  | ((with_reducible show Mi.MU _ _); (with_reducible apply Mi.mu_own); (walk_at "lk"))
  | ((with_reducible show Mi.MU _ _); (with_reducible apply Mi.mu_io); (walk_at "lk"))
  | with_reducible refine Mi.dl_cons ?_
  | with_reducible refine Mi.dl_nil ?_
  | with_reducible refine Mi.w_none ?_
  | with_reducible refine Mi.io_of ?_
  | with_reducible refine Mi.w_itT ?_
  | with_reducible refine Mi.w_itL ?_
  | walk_at "fn")
local macro_rules | `(tactic| walk_at "w") => `(tactic| repeat (walk_at "w1"))
local macro_rules | `(tactic| walk_at "wd") => `(tactic| first
  | ((with_reducible refine Mi.if_p ?_ ?_); (first | with_reducible assumption | exact rfl | decide | omega))
  | ((with_reducible refine Mi.if_m ?_ ?_); (first | with_reducible assumption | exact rfl | decide | omega))
  | ((with_reducible refine Mi.if_np ?_ ?_); (first | with_reducible assumption | exact rfl | decide | omega))
  | ((with_reducible refine Mi.if_nm ?_ ?_); (first | with_reducible assumption | exact rfl | decide | omega)))
local macro_rules | `(tactic| walk_at "mo") => `(tactic| (walk_at "w"; (repeat (walk_at "wd"; walk_at "w"))))
local macro_rules | `(tactic| walk_at "env") => `(tactic| simp only [envP, envI, List.map_cons, List.map_nil, List.length_cons, List.length_nil, List.replicate, List.cons_append, List.nil_append, Nat.reduceAdd, Nat.reduceSub])

local macro_rules | `(tactic| walk_at "fn") => `(tactic| first | ((with_reducible show Mi.VAL _ _); (with_reducible apply Mi.t_left)) | ((with_reducible show Mi.Sat _ _); (with_reducible refine Mi.w_isiE ?_)) | ((with_reducible show Mi.Sat _ _); (with_reducible refine Mi.w_pkR ?_)) | ((with_reducible show Mi.Sat _ _); (with_reducible refine Mi.w_ext ?_)) | ((with_reducible show Mi.EXT _ _ _ _ _); (with_reducible apply Mi.ext_); (walk_at "side")) | ((with_reducible show Mi.SatA _ _); (with_reducible refine Mi.w_r3 ?_)) | ((with_reducible show Mi.Sat _ _); (first | with_reducible refine Mi.w_lr3 ?_ | with_reducible refine Mi.w_pop ?_ | with_reducible refine Mi.w_sj ?_ | with_reducible refine Mi.w_popAt ?_ | with_reducible refine Mi.w_lstS ?_)) | ((with_reducible show Mi.SatA _ _); (first | with_reducible refine Mi.w_enum ?_)) | ((with_reducible show Mi.TG _ _); (with_reducible apply Mi.tg_l); (exact rfl)) | ((with_reducible show Mi.EN _ _); (with_reducible refine Mi.en_ ?_)) | ((with_reducible show Mi.SJ _ _); (with_reducible apply Mi.sj_); (walk_at "side")))
theorem lchanges40_go {d : PyData} {s e : Int} {D : Den} {Q : PyData → Prop} (h : EX 20 true d D) (hs : s ≤ e) (hb : -100000000 ≤ s ∧ e ≤ 100000000 ∧ e - s ≤ 1000000) (q : Q (.list ((chg D s e).map (encC D)))) : SatP (runP 7 m__law_changes [d, .int s, .int e]) Q := by
  refine run_P ?_
  walk_at "env"
  unfold m__law_changes
  walk_at "mo"
  refine valD_go h ?_
  walk_at "mo"
  rw [show decide (0 ≤ D.val s) = up D s from rfl]
  have h0 : ∃ x5 x6, ([.val d, .val (.int s), .val (.int e), .own (.list []), .val (.bool (up D s)), .no, .no] : Mi.Env) = [.val d, .val (.int s), .val (.int e), .own (.list ((chg D s (s + ((0 : Nat) : Int))).map (encC D))), .val (.bool (up D (s + ((0 : Nat) : Int)))), x5, x6] ∧ notIo [x5] 0 = true ∧ notIo [x6] 0 = true := ⟨.no, .no, by
    rw [show s + ((0 : Nat) : Int) = s by simp]
    unfold chg
    rw [Int.sub_self]
    rfl, rfl, rfl⟩
  with_reducible refine for_inv (fun i ρ => ∃ x5 x6, ρ = [.val d, .val (.int s), .val (.int e), .own (.list ((chg D s (s + (i : Int))).map (encC D))), .val (.bool (up D (s + (i : Int)))), x5, x6] ∧ notIo [x5] 0 = true ∧ notIo [x6] 0 = true) h0 (fun i x ρ hx hI => ?_) (fun ρ hI => ?_)
  · obtain ⟨x5, x6, rfl, i5, i6⟩ := hI
    obtain ⟨hi, rfl⟩ := rngD_get hx
    have cl := chg_len D (s := s) (e := s + (i : Int)) (by omega)
    refine tg_n i5 ?_
    walk_at "mo"
    refine valD_go h ?_
    walk_at "mo"
    refine tg_n i6 ?_
    walk_at "mo"
    rw [show s + 1 + (i : Int) = s + ((i + 1 : Nat) : Int) by omega]
    have sn := chg_snoc (D := D) (s := s) (t := s + ((i + 1 : Nat) : Int)) (by omega)
    rw [show s + ((i + 1 : Nat) : Int) - 1 = s + (i : Int) by omega] at sn
    rw [sn]
    rw [show decide (0 ≤ D.val (s + ((i + 1 : Nat) : Int))) = up D (s + ((i + 1 : Nat) : Int)) from rfl]
    generalize s + ((i + 1 : Nat) : Int) = t at *
    have done : ∀ (y : PyData), y = encC D t → (up D t != up D (s + (i : Int))) = true → ∃ x5 x6, ([.val d, .val (.int s), .val (.int e), .own (.list ((chg D s (s + (i : Int))).map (encC D) ++ [y])), .val (.bool (up D t)), .val (.int t), .val (.bool (up D t))] : Mi.Env) = [.val d, .val (.int s), .val (.int e), .own (.list ((chg D s (s + (i : Int)) ++ (if up D t != up D (s + (i : Int)) then [t] else [])).map (encC D))), .val (.bool (up D t)), x5, x6] ∧ notIo [x5] 0 = true ∧ notIo [x6] 0 = true := fun y hy c => by
      refine ⟨.val (.int t), .val (.bool (up D t)), ?_, rfl, rfl⟩
      rw [if_pos c, List.map_append, hy]
      rfl
    refine if_split (fun g => ?_) (fun g => ?_)
    · have g' : (up D t != up D (s + (i : Int))) = true := by
        rw [bne_iff_ne]
        intro z
        rw [z] at g
        simp at g
      walk_at "mo"
      refine if_split (fun b => ?_) (fun b => ?_)
      · walk_at "mo"
        have := done (.tuple [.int t, .str "up"]) (by rw [side_t b]; rfl) g'
        exact this
      · walk_at "mo"
        have := done (.tuple [.int t, .str "down"]) (by rw [side_t b]; rfl) g'
        exact this
    · have g' : (up D t != up D (s + (i : Int))) = false := by
        rw [bne_eq_false_iff_eq]
        simpa using g
      walk_at "mo"
      refine ⟨.val (.int t), .val (.bool (up D t)), ?_, rfl, rfl⟩
      rw [if_neg (by rw [g']; exact Bool.false_ne_true), List.append_nil]
  · obtain ⟨x5, x6, rfl, i5, i6⟩ := hI
    rw [rngD_len, show s + (((e + 1 - (s + 1)).toNat : Nat) : Int) = e by omega]
    walk_at "mo"
    exact q
theorem Mx.of {m : Int} (m0 : 1 ≤ m) (m1 : m ≤ 40) {n : Nat} {k : Bool} {d : PyData} {D : Den} (h : EX n k d D) : Sm d → Mx m n k d := by
  induction h with
  | qnum l => intro _; exact .qnum
  | qwave l ih => intro s; cases s with | wav s => exact .qwave (ih s)
  | @qsum n xs gs e l0 l1 l ih =>
    intro s
    cases s with
    | sum s =>
      refine .qsum fun x hx => ?_
      have sx := s x hx
      obtain ⟨i, hi, rfl⟩ := List.getElem_of_mem hx
      exact ih i _ _ (List.getElem?_eq_getElem hi) (List.getElem?_eq_getElem (by omega)) sx
  | qshare l li ld ih => intro s; cases s with | share s => exact .qshare (ih s)
  | qprod l l2 ld hb ih ih2 => intro s; cases s with | prod s s2 => exact .qprod (ih s) (ih2 s2)
  | @qlater n b g i l li ih =>
    intro s
    cases s with
    | later s hi =>
      refine .qlater (ih s) ?_
      have h1 : i * m ≤ 1001 * 40 := by
        rcases Int.lt_or_le i 0 with z | z
        · have : i * m ≤ 0 := Int.mul_nonpos_of_nonpos_of_nonneg (by omega) (by omega)
          omega
        · exact Int.mul_le_mul hi.2 m1 (by omega) (by decide)
      have h2 : -(i * m) ≤ 1000 * 40 := by
        rw [← Int.neg_mul]
        rcases Int.lt_or_le (-i) 0 with z | z
        · have : -i * m ≤ 0 := Int.mul_nonpos_of_nonpos_of_nonneg (by omega) (by omega)
          omega
        · exact Int.mul_le_mul (by omega) m1 (by omega) (by decide)
      exact ⟨by omega, by omega⟩
  | @aturn n s i d ls li ld =>
    intro z
    cases z with
    | turn hd =>
      obtain ⟨d1, d2⟩ := ld
      have h1 : d * m ≤ 1000000000 * 40 := Int.mul_le_mul hd m1 (by omega) (by decide)
      have h2 : 1 * 1 ≤ d * m := Int.mul_le_mul d1 m0 (by decide) (by omega)
      exact .aturn ⟨by omega, by omega⟩
  | amoved l l2 ih ih2 => intro s; cases s with | moved s s2 => exact .amoved (ih s) (ih2 s2)
  | aminus l l2 ih ih2 => intro s; cases s with | minus s s2 => exact .aminus (ih s) (ih2 s2)
/-- the number of changes tells whether both ends are alike -/
theorem chg_par (D : Den) (s : Int) : ∀ n : Nat, ((chg D s (s + n)).length % 2 = 1) ↔ (up D (s + n) ≠ up D s)
  | 0 => by
    have : chg D s (s + ((0 : Nat) : Int)) = [] := by unfold chg; rw [show (s + ((0 : Nat) : Int) - s).toNat = 0 by omega]; rfl
    rw [this, show s + ((0 : Nat) : Int) = s by omega]
    simp
  | n + 1 => by
    have ih := chg_par D s n
    rw [chg_snoc (by omega), show s + ((n + 1 : Nat) : Int) - 1 = s + (n : Int) by omega, List.length_append]
    generalize up D (s + ((n + 1 : Nat) : Int)) = a at *
    generalize up D (s + (n : Int)) = b at *
    generalize up D s = c at *
    generalize (chg D s (s + (n : Int))).length = l at *
    cases a <;> cases b <;> cases c <;> simp at ih ⊢ <;> omega
theorem finemo_go {q d' : PyData} {D D' : Den} {n : Nat} {m t : Int} {Q : PyData → Prop} (hF : FINE m n true q D d' D') (hn : n ≤ 12) (hm : 1 ≤ m ∧ m ≤ 40) (ht : -1000000 ≤ t ∧ t ≤ 1000000) (hb : D.most ≤ Big) (hz : D.size ≤ 1000)
    (hq : Q (.list ((chg D' (m * (t - 1)) (m * t)).map .int))) : SatP (runP 5 m_fine_moments [q, .int t, .int m]) Q := by
  have e := hF.f1 12 hn
  rw [rfin_t] at e
  have em : m * (t - 1) = m * t - m := by rw [Int.mul_sub, Int.mul_one]
  have sc : ScanOk d' (m * (t - 1)) (m * t) D' := ⟨hF.ex.up (by omega), by rw [hF.mo]; exact hb, by rw [hF.si]; exact hz, by omega, by omega⟩
  refine run_P ?_
  walk_at "env"
  unfold m_fine_moments
  walk_at "mo"
  refine satP_of e ?_
  walk_at "mo"
  refine changes_go sc (by omega) ?_
  have cl := chg_len D' (s := m * (t - 1)) (e := m * t) (by omega)
  walk_at "mo"
  refine lc_mt (chg D' (m * (t - 1)) (m * t)) (encC D') .int rfl (by omega) (fun y hy => ?_) ?_
  · unfold encC
    walk_at "mo"
    refine ⟨rfl, ?_⟩
    walk_at "mo"
    rfl
  · walk_at "mo"
    exact hq
theorem v_c0 {D : Den} {t : Int} {Q : PyData → Prop} (q : Q (.int t)) : VAL (fIxT (encC D t) (.int 0)) Q := ⟨_, rfl, q⟩
abbrev LF (sc T q : PyData) (m : Int) (d' : PyData) (x5 x6 x7 x8 x9 x10 : Sl) : Mi.Env := [.val sc, .own T, .val q, .val (.int m), .val d', x5, x6, x7, x8, x9, x10, .no]
noncomputable abbrev tailS : Mi.MS := (mSeq (mFor (itR1 [(mC (.int (3)))]) (gN 5) (mSeq (mSet 6 (mOp fSub (mCallI (runI 4 m__law_draw) 1 [(mC (.int (20001)))]) (mC (.int (10000)))))
  (mIfS (mB (mOp fNe (mCall (f_val true) [(mVar 4), (mOp fMul (mVar 3) (mVar 6))]) (mCall (f_val true) [(mVar 2), (mVar 6)]))) (mRet (mC (.bool false))) mNext)))
  (mSeq (mSet 7 (mOp fSub (mCallI (runI 4 m__law_draw) 1 [(mC (.int (2001)))]) (mC (.int (1000)))))
  (mSeq (mFor (itL (mSl fSlL (mCall (runP 7 m__law_changes) [(mVar 2), (mVar 7), (mOp fAdd (mVar 7) (mC (.int (60))))]) mNoPart (mPart (mC (.int (2)))))) (gT 2 (gConss (gN 6) (gConss (gN 8) gNils))) (mSeq (mSet 9 (mCall (runP 5 m_fine_moments) [(mVar 2), (mVar 6), (mVar 3)]))
  (mSeq (mSet 10 (mLc (itL (mCall (runP 7 m__law_changes) [(mVar 4), (mOp fMul (mVar 3) (mOp fSub (mVar 6) (mC (.int (1))))), (mOp fMul (mVar 3) (mVar 6))])) (gN 11) mYes (mOp fIxT (mVar 11) (mC (.int (0)))) [11]))
  (mIfS (mOrT (mNotT (mB (mIsi "list" (mVar 9)))) (mOrT (mB (mOp fNeD (mVar 9) (mVar 10))) (mB (mOp fNe (mOp fMod (mCB cbInt [(mCB cbLen [(mVar 9)])]) (mC (.int (2)))) (mC (.int (1))))))) (mRet (mC (.bool false))) mNext))))
  (mRet (mC (.bool true))))))
theorem cut_2 (xs : List PyData) : Mi.cutD xs none (some 2) = xs.take 2 := by
  unfold Mi.cutD HT.sIx
  cases xs with
  | nil => rfl
  | cons x xs =>
    cases xs with
    | nil => rfl
    | cons y xs =>
      simp
set_option maxHeartbeats 8000000 in
theorem tailS_go {sc T q d' : PyData} {m : Int} {n : Nat} {D D' : Den} {N B C : Mi.Env → Prop} {X : Str → PyData → Mi.Env → Prop} (hT : TapeOk T) (hq : EX n true q D) (hF : FINE m n true q D d' D') (hn : n ≤ 12) (hm : 1 ≤ m ∧ m ≤ 40) (hb : D.most ≤ Big) (hz : D.size ≤ 1000) :
    SatS (tailS (LF sc T q m d' .no .no .no .no .no .no)) N (fun d _ => d = .bool true) B C X := by
  have eq20 := hq.up (m := 20) (by omega)
  have ed20 := hF.ex.up (m := 20) (by omega)
  unfold tailS LF
  walk_at "mo"
  have h0 : ∃ T' x5 x6, LF sc T q m d' .no .no .no .no .no .no = LF sc T' q m d' x5 x6 .no .no .no .no ∧ TapeOk T' ∧ notIo [x5] 0 = true ∧ notIo [x6] 0 = true := ⟨_, _, _, rfl, hT, rfl, rfl⟩
  with_reducible refine for_inv (fun i ρ => ∃ T' x5 x6, ρ = LF sc T' q m d' x5 x6 .no .no .no .no ∧ TapeOk T' ∧ notIo [x5] 0 = true ∧ notIo [x6] 0 = true) h0 (fun i x ρ hx hI => ?_) (fun ρ hI => ?_)
  · obtain ⟨T', x5, x6, hρ, hT', i5, i6⟩ := hI
    rw [hρ]
    clear hρ
    unfold LF
    obtain ⟨hi, rfl⟩ := rngD_get hx
    refine tg_n i5 ?_
    walk_at "mo"
    refine draw_go hT' (by omega) (by omega) fun t T2 t0 t1 hT2 => ?_
    walk_at "mo"
    refine tg_n i6 ?_
    walk_at "mo"
    refine valD_go ed20 ?_
    walk_at "mo"
    refine valD_go eq20 ?_
    rw [hF.va]
    walk_at "mo"
    exact ⟨T2, _, _, rfl, hT2, rfl, rfl⟩
  · obtain ⟨T', x5, x6, hρ, hT', i5, i6⟩ := hI
    rw [hρ]
    clear hρ
    unfold LF
    walk_at "mo"
    refine draw_go hT' (by omega) (by omega) fun s T2 s0 s1 hT2 => ?_
    walk_at "mo"
    refine lchanges_go eq20 (by omega) ⟨by omega, by omega⟩ ?_
    have cm : ∀ t ∈ (chg D (s - 1000) (s - 1000 + 60)).take 2, ((s - 1000 < t ∧ t ≤ s - 1000 + 60) ∧ up D t ≠ up D (t - 1)) := fun t ht => mem_chg.mp (List.mem_of_mem_take ht)
    walk_at "mo"
    rw [cut_2, ← List.map_take]
    generalize (chg D (s - 1000) (s - 1000 + 60)).take 2 = cs at *
    have g0 : ∃ x6 x8 x9 x10, LF sc T2 q m d' x5 x6 (.val (.int (s - 1000))) .no .no .no = LF sc T2 q m d' x5 x6 (.val (.int (s - 1000))) x8 x9 x10 ∧ notIo [x6] 0 = true ∧ notIo [x8] 0 = true ∧ notIo [x9] 0 = true ∧ notIo [x10] 0 = true := ⟨x6, _, _, _, rfl, i6, rfl, rfl, rfl⟩
    have g0 : ∃ y6 x8 x9 x10, LF sc T2 q m d' x5 x6 (.val (.int (s - 1000))) .no .no .no = LF sc T2 q m d' x5 y6 (.val (.int (s - 1000))) x8 x9 x10 ∧ notIo [y6] 0 = true ∧ notIo [x8] 0 = true ∧ notIo [x9] 0 = true ∧ notIo [x10] 0 = true := ⟨x6, _, _, _, rfl, i6, rfl, rfl, rfl⟩
    with_reducible refine for_pre cs (encC D) rfl (fun pre ρ => ∃ x6 x8 x9 x10, ρ = LF sc T2 q m d' x5 x6 (.val (.int (s - 1000))) x8 x9 x10 ∧ notIo [x6] 0 = true ∧ notIo [x8] 0 = true ∧ notIo [x9] 0 = true ∧ notIo [x10] 0 = true) g0 (fun pre t post ρ eq hI => ?_) (fun ρ hI => ?_)
    · obtain ⟨y6, x8, x9, x10, hρ, i6, i8, i9, i10⟩ := hI
      rw [hρ]
      clear hρ
      unfold LF
      obtain ⟨⟨t0, t1⟩, tu⟩ := cm t (by rw [eq]; simp)
      have em : m * (t - 1) = m * t - m := by rw [Int.mul_sub, Int.mul_one]
      have mb : -40000000 ≤ m * t ∧ m * t ≤ 40000000 := by
        rcases Int.lt_or_le t 0 with z | z
        · have a1 := Int.mul_le_mul hm.2 (show -t ≤ 1000000 by omega) (by omega) (by decide)
          have a2 := Int.mul_nonneg (show 0 ≤ m by omega) (show 0 ≤ -t by omega)
          rw [Int.mul_neg] at a1 a2
          omega
        · have a1 := Int.mul_le_mul hm.2 (show t ≤ 1000000 by omega) (by omega) (by decide)
          have a2 := Int.mul_nonneg (show 0 ≤ m by omega) z
          omega
      unfold encC sideS
      walk_at "mo"
      refine tg_n i6 ?_
      walk_at "mo"
      refine tg_n i8 ?_
      walk_at "mo"
      refine finemo_go hF hn hm ⟨by omega, by omega⟩ hb hz ?_
      walk_at "mo"
      refine tg_n i9 ?_
      walk_at "mo"
      refine lchanges40_go ed20 (by omega) ⟨by omega, by omega, by omega⟩ ?_
      have cl := chg_len D' (s := m * (t - 1)) (e := m * t) (by omega)
      walk_at "mo"
      refine lc_mt (chg D' (m * (t - 1)) (m * t)) (encC D') .int rfl (by omega) (fun y hy => ?_) ?_
      · walk_at "mo"
        refine v_c0 ?_
        refine ⟨rfl, ?_⟩
        walk_at "mo"
        rfl
      · walk_at "mo"
        refine tg_n i10 ?_
        walk_at "mo"
        refine ⟨_, isi_ll, ?_⟩
        walk_at "mo"
        refine v_neLi ?_
        walk_at "mo"
        rw [List.length_map]
        have par := (chg_par D' (m * (t - 1)) m.toNat).mpr (by
          rw [show m * (t - 1) + (m.toNat : Int) = m * t by omega]
          have u1 : up D' (m * t) = up D t := by unfold up; rw [hF.va]
          have u2 : up D' (m * (t - 1)) = up D (t - 1) := by unfold up; rw [hF.va]
          rw [u1, u2]
          exact tu)
        rw [show m * (t - 1) + (m.toNat : Int) = m * t by omega] at par
        refine if_np (by omega) ?_
        walk_at "mo"
        exact ⟨_, _, _, _, rfl, rfl, rfl, rfl, rfl⟩
    · obtain ⟨y6, x8, x9, x10, hρ, i6, i8, i9, i10⟩ := hI
      rw [hρ]
      clear hρ
      unfold LF
      walk_at "mo"
      rfl

end K11

set_option Elab.async false
set_option linter.all false
set_option maxRecDepth 100000
namespace K11
open PySem hiding Env ret
open PySem.Spec PyProof.Rows L2 Mi
/-! the walk over mirrors -/
local macro_rules | `(tactic| walk_at "lk") => `(tactic| first | exact Mi.lk0 | exact Mi.lk1 | exact Mi.lk2 | exact Mi.lk3 | exact Mi.lk4 | exact Mi.lk5 | exact Mi.lk6 | exact Mi.lk7 | exact Mi.lk8 | exact Mi.lk9 | exact Mi.lk10 | exact Mi.lk11 | exact Mi.lk12 | exact Mi.lk13 | exact Mi.lk14 | exact Mi.lk15 | exact Mi.lk16 | exact Mi.lk17 | exact Mi.lk18 | exact Mi.lk19 | exact Mi.lk20 | exact Mi.lk21 | exact Mi.lk22 | exact Mi.lk23 | exact Mi.lk24 | exact Mi.lk25 | exact Mi.lk26 | exact Mi.lk27 | exact Mi.lk28 | exact Mi.lk29 | exact Mi.lk30 | exact Mi.lk31 | exact Mi.lk32 | exact Mi.lk33 | exact Mi.lk34 | exact Mi.lk35 | exact Mi.lk36 | exact Mi.lk37 | exact Mi.lk38 | exact Mi.lk39)
local macro_rules | `(tactic| walk_at "st") => `(tactic| first | with_reducible refine Mi.st0 ?_ | with_reducible refine Mi.st1 ?_ | with_reducible refine Mi.st2 ?_ | with_reducible refine Mi.st3 ?_ | with_reducible refine Mi.st4 ?_ | with_reducible refine Mi.st5 ?_ | with_reducible refine Mi.st6 ?_ | with_reducible refine Mi.st7 ?_ | with_reducible refine Mi.st8 ?_ | with_reducible refine Mi.st9 ?_ | with_reducible refine Mi.st10 ?_ | with_reducible refine Mi.st11 ?_ | with_reducible refine Mi.st12 ?_ | with_reducible refine Mi.st13 ?_ | with_reducible refine Mi.st14 ?_ | with_reducible refine Mi.st15 ?_ | with_reducible refine Mi.st16 ?_ | with_reducible refine Mi.st17 ?_ | with_reducible refine Mi.st18 ?_ | with_reducible refine Mi.st19 ?_ | with_reducible refine Mi.st20 ?_ | with_reducible refine Mi.st21 ?_ | with_reducible refine Mi.st22 ?_ | with_reducible refine Mi.st23 ?_ | with_reducible refine Mi.st24 ?_ | with_reducible refine Mi.st25 ?_ | with_reducible refine Mi.st26 ?_ | with_reducible refine Mi.st27 ?_ | with_reducible refine Mi.st28 ?_ | with_reducible refine Mi.st29 ?_ | with_reducible refine Mi.st30 ?_ | with_reducible refine Mi.st31 ?_ | with_reducible refine Mi.st32 ?_ | with_reducible refine Mi.st33 ?_ | with_reducible refine Mi.st34 ?_ | with_reducible refine Mi.st35 ?_ | with_reducible refine Mi.st36 ?_ | with_reducible refine Mi.st37 ?_ | with_reducible refine Mi.st38 ?_ | with_reducible refine Mi.st39 ?_)
local macro_rules | `(tactic| walk_at "at") => `(tactic| first | with_reducible assumption | exact Rd.at0 | exact Rd.at1 | exact Rd.at2 | exact Rd.at3 | exact Rd.at4)
local macro_rules | `(tactic| walk_at "side") => `(tactic| first | with_reducible assumption | omega | (constructor <;> omega) | (refine Or.inl ⟨?_, ?_⟩ <;> omega) | (refine Or.inr ⟨?_, ?_⟩ <;> omega) | (simp only [List.length_cons, List.length_nil, List.length_append, List.length_map]; omega) | ((refine ⟨⟨?_, ?_⟩, ?_, ?_⟩) <;> omega))
local macro_rules | `(tactic| walk_at "fn") => `(tactic| fail)
local macro_rules | `(tactic| walk_at "w1") => `(tactic| first
  | ((with_reducible show Mi.SatS _ _ _ _ _ _); (first | with_reducible refine Mi.w_seq ?_ | with_reducible refine Mi.w_retIf ?_ | with_reducible refine Mi.w_retX ?_ | with_reducible refine Mi.w_asgX ?_ | with_reducible refine Mi.w_dropX ?_ | with_reducible refine Mi.w_raise ?_ | with_reducible refine Mi.w_asg ?_ | with_reducible refine Mi.w_ifS ?_ | with_reducible refine Mi.w_drop ?_ | with_reducible refine Mi.w_ret ?_ | with_reducible refine Mi.w_next ?_ | with_reducible refine Mi.w_for ?_ | with_reducible refine Mi.w_retN ?_ | with_reducible refine Mi.w_brk ?_ | with_reducible refine Mi.w_cnt ?_ | with_reducible refine Mi.w_while ?_ | with_reducible refine Mi.w_setO ?_))
  | ((with_reducible show Mi.Sat _ _); (first | ((with_reducible apply Mi.w_val); (walk_at "lk")) | with_reducible refine Mi.w_c ?_ | with_reducible refine Mi.w_op ?_ | with_reducible refine Mi.w_call ?_ | with_reducible refine Mi.w_callI ?_ | with_reducible refine Mi.w_tup ?_ | with_reducible refine Mi.w_getV ?_ | with_reducible refine Mi.w_ixV ?_ | ((with_reducible apply Mi.w_pkv); (walk_at "lk")) | with_reducible refine Mi.w_peek ?_ | with_reducible refine Mi.w_cb ?_ | with_reducible refine Mi.w_lst ?_ | with_reducible refine Mi.w_un ?_ | ((with_reducible apply Mi.w_own); (walk_at "lk")) | with_reducible refine Mi.w_andV ?_ | with_reducible refine Mi.w_orV ?_ | with_reducible refine Mi.w_notV ?_ | with_reducible refine Mi.w_if ?_ | with_reducible refine Mi.w_chain ?_ | with_reducible refine Mi.w_sl ?_ | with_reducible refine Mi.w_get ?_ | with_reducible refine Mi.w_d0 ?_ | with_reducible refine Mi.w_dict ?_ | with_reducible refine Mi.w_tupS ?_ | with_reducible refine Mi.w_app ?_ | with_reducible refine Mi.w_lcw ?_ | ((with_reducible apply Mi.w_lenO); (walk_at "lk")) | ((with_reducible apply Mi.w_lenv); (walk_at "lk"))))
  | ((with_reducible show Mi.SatT _ _); (first | with_reducible refine Mi.w_B ?_ | with_reducible refine Mi.w_andT ?_ | with_reducible refine Mi.w_orT ?_ | with_reducible refine Mi.w_notT ?_ | with_reducible refine Mi.w_yes ?_))
  | ((with_reducible show Mi.SatA _ _); (first | with_reducible refine Mi.w_nil ?_ | with_reducible refine Mi.w_cons ?_ | with_reducible refine Mi.w_snil ?_ | with_reducible refine Mi.w_sone ?_ | with_reducible refine Mi.w_sstar ?_ | with_reducible refine Mi.w_r1 ?_ | with_reducible refine Mi.w_r2 ?_ | with_reducible refine Mi.w_itL1 ?_ | with_reducible refine Mi.w_itT1 ?_))
  | ((with_reducible show Mi.VAL _ _); (first | with_reducible apply Mi.v_add | with_reducible apply Mi.v_sub | with_reducible apply Mi.v_eqI | with_reducible apply Mi.v_lt | with_reducible apply Mi.v_le | with_reducible apply Mi.v_gt | with_reducible apply Mi.v_ge | with_reducible apply Mi.v_neI | ((with_reducible apply Mi.v_ixL); (walk_at "at")) | ((with_reducible apply Mi.v_ixT); (walk_at "at")) | ((with_reducible apply Mi.v_mul); (walk_at "side")) | ((with_reducible apply Mi.v_div); (walk_at "side")) | ((with_reducible apply Mi.v_mod); (walk_at "side")) | with_reducible apply Mi.v_neg | with_reducible apply Mi.v_eqS | with_reducible apply Mi.v_eqB | with_reducible apply Mi.v_neS | with_reducible apply Mi.v_neB | with_reducible apply Mi.v_eqNI | with_reducible apply Mi.v_neNI | with_reducible apply Mi.v_isN | with_reducible apply Mi.v_notN | with_reducible apply Mi.v_lenL | with_reducible apply Mi.v_lenT | with_reducible apply Mi.v_abs | with_reducible apply Mi.v_int | with_reducible apply Mi.v_intB | with_reducible apply Mi.v_min2 | with_reducible apply Mi.v_max2 | with_reducible apply Mi.v_tupL | with_reducible apply Mi.v_tupT | with_reducible apply Mi.v_lstL | with_reducible apply Mi.v_lstT | with_reducible apply Mi.v_slT | with_reducible apply Mi.v_slL | ((with_reducible apply Mi.v_pow); (decide)) | ((with_reducible apply Mi.v_catL); (walk_at "side")) | ((with_reducible apply Mi.v_catT); (walk_at "side")) | ((with_reducible apply Mi.v_divmod); (walk_at "side")) | walk_at "fn"))
  | ((with_reducible show Mi.IFV _ _ _); (first | with_reducible refine Mi.if_t ?_ | with_reducible refine Mi.if_f ?_ | with_reducible refine Mi.if_nt ?_ | with_reducible refine Mi.if_nf ?_ | with_reducible refine Mi.if_n1 ?_ | with_reducible refine Mi.if_n2 ?_ | with_reducible refine Mi.if_n3 ?_ | with_reducible refine Mi.if_n4 ?_ | with_reducible refine Mi.if_n5 ?_ | with_reducible refine Mi.if_n6 ?_))
  | ((with_reducible show Mi.SETS _ _); (first | walk_at "st" | (with_reducible refine Mi.put_own (by walk_at "lk") ?_) | (with_reducible refine Mi.put_io (by walk_at "lk") ?_)))
  | ((with_reducible show Mi.TG _ _); (first | ((with_reducible apply Mi.tg_n); (exact rfl)) | ((with_reducible apply Mi.tg_t); (exact rfl))))
  | ((with_reducible show Mi.TGS _ _); (first | with_reducible refine Mi.tgs_cons ?_ | with_reducible refine Mi.tgs_nil ?_))
  | ((with_reducible show Mi.LCB _ _ _); (with_reducible apply Mi.lcb); (exact rfl))
  | ((with_reducible show Mi.WIPE _ _); (first | with_reducible refine Mi.wp1 ?_ | with_reducible refine Mi.wp2 ?_ | ((with_reducible refine Mi.rs1 ?_ ?_); (walk_at "lk")) | ((with_reducible refine Mi.rs1v (d := ?_) ?_ ?_); (walk_at "lk")) | ((with_reducible refine Mi.rs2 ?_ ?_ ?_); (walk_at "lk"); (walk_at "lk"))))
  | ((with_reducible show Mi.SETO _ _ _ _); (with_reducible apply Mi.seto); (exact rfl))
  | with_reducible refine Mi.isl ?_
  | ((with_reducible show Mi.APP _ _ _ _ _); (with_reducible apply Mi.app_); (walk_at "side"))
  | ((with_reducible show Mi.LEQ _ _); (with_reducible apply Mi.leq); (walk_at "side"))
  | with_reducible refine Mi.isls ?_
  | with_reducible refine Mi.ists ?_
  | ((with_reducible show Mi.R1 _ _); (with_reducible apply Mi.r1_); (walk_at "side"))
  | ((with_reducible show Mi.R2 _ _); (with_reducible apply Mi.r2_); (walk_at "side"))
  | with_reducible refine Mi.prt ?_
  | with_reducible refine Mi.w_part ?_
  | with_reducible refine Mi.bl_ ?_
  | ((with_reducible show Mi.MU _ _); (with_reducible apply Mi.mu_own); (walk_at "lk"))
  | ((with_reducible show Mi.MU _ _); (with_reducible apply Mi.mu_io); (walk_at "lk"))
  | with_reducible refine Mi.dl_cons ?_
  | with_reducible refine Mi.dl_nil ?_
  | with_reducible refine Mi.w_none ?_
  | with_reducible refine Mi.io_of ?_
  | with_reducible refine Mi.w_itT ?_
  | with_reducible refine Mi.w_itL ?_
  | walk_at "fn")
local macro_rules | `(tactic| walk_at "w") => `(tactic| repeat (walk_at "w1"))
local macro_rules | `(tactic| walk_at "wd") => `(tactic| first
  | ((with_reducible refine Mi.if_p ?_ ?_); (first | with_reducible assumption | exact rfl | decide | omega))
  | ((with_reducible refine Mi.if_m ?_ ?_); (first | with_reducible assumption | exact rfl | decide | omega))
  | ((with_reducible refine Mi.if_np ?_ ?_); (first | with_reducible assumption | exact rfl | decide | omega))
  | ((with_reducible refine Mi.if_nm ?_ ?_); (first | with_reducible assumption | exact rfl | decide | omega)))
local macro_rules | `(tactic| walk_at "mo") => `(tactic| (walk_at "w"; (repeat (walk_at "wd"; walk_at "w"))))
local macro_rules | `(tactic| walk_at "env") => `(tactic| simp only [envP, envI, List.map_cons, List.map_nil, List.length_cons, List.length_nil, List.replicate, List.cons_append, List.nil_append, Nat.reduceAdd, Nat.reduceSub])

local macro_rules | `(tactic| walk_at "fn") => `(tactic| first | ((with_reducible show Mi.VAL _ _); (with_reducible apply Mi.t_left)) | ((with_reducible show Mi.Sat _ _); (with_reducible refine Mi.w_isiE ?_)) | ((with_reducible show Mi.Sat _ _); (with_reducible refine Mi.w_pkR ?_)) | ((with_reducible show Mi.Sat _ _); (with_reducible refine Mi.w_ext ?_)) | ((with_reducible show Mi.EXT _ _ _ _ _); (with_reducible apply Mi.ext_); (walk_at "side")) | ((with_reducible show Mi.SatA _ _); (with_reducible refine Mi.w_r3 ?_)) | ((with_reducible show Mi.Sat _ _); (first | with_reducible refine Mi.w_lr3 ?_ | with_reducible refine Mi.w_pop ?_ | with_reducible refine Mi.w_sj ?_ | with_reducible refine Mi.w_popAt ?_ | with_reducible refine Mi.w_lstS ?_)) | ((with_reducible show Mi.SatA _ _); (first | with_reducible refine Mi.w_enum ?_)) | ((with_reducible show Mi.TG _ _); (with_reducible apply Mi.tg_l); (exact rfl)) | ((with_reducible show Mi.EN _ _); (with_reducible refine Mi.en_ ?_)) | ((with_reducible show Mi.SJ _ _); (with_reducible apply Mi.sj_); (walk_at "side")))
@[irreducible] noncomputable def tailX : Mi.MS := tailS
theorem tailX_eq : tailX = tailS := by unfold tailX; rfl
theorem tailX_go {sc T q d' : PyData} {m : Int} {n : Nat} {D D' : Den} {N B C : Mi.Env → Prop} {X : Str → PyData → Mi.Env → Prop} (hT : TapeOk T) (hq : EX n true q D) (hF : FINE m n true q D d' D') (hn : n ≤ 12) (hm : 1 ≤ m ∧ m ≤ 40) (hb : D.most ≤ Big) (hz : D.size ≤ 1000) :
    SatS (tailX (LF sc T q m d' .no .no .no .no .no .no)) N (fun d _ => d = .bool true) B C X := by
  rw [tailX_eq]
  with_reducible exact tailS_go hT hq hF hn hm hb hz
theorem big_of {n : Nat} {d : PyData} {D : Den} (h : EX n true d D) (hn : n ≤ 6) : D.most ≤ Big := by
  have a := (h.up hn).good.mle rfl
  exact Int.le_trans a (by unfold Big; exact Int.le_of_eq rfl)
noncomputable abbrev tailW : Mi.MS := (mSeq (mSet 3 (mOp fAdd (mC (.int (1))) (mCallI (runI 4 m__law_draw) 1 [(mCallI (runI 2 m__law_pick) 1 [(mLst [(mC (.int (2))), (mC (.int (7))), (mC (.int (40)))])])])))
  (mSeq (mSet 4 (mCall (r_finer 12) [(mVar 2), (mVar 3)]))
  (mSeq (mIfS (mB (mOp fNeD (mVar 4) (mCall (r__law_finer 12) [(mVar 2), (mVar 3)]))) (mRet (mC (.bool false))) mNext)
  tailX)))
@[irreducible] noncomputable def tailY : Mi.MS := tailW
theorem tailY_eq : tailY = tailW := by unfold tailY; rfl
theorem tailW_go {sc q T2 : PyData} {D : Den} {N B C : Mi.Env → Prop} {X : Str → PyData → Mi.Env → Prop} (hq : EX 6 true q D) (hz : D.size ≤ 1000) (hs : Sm q) (hT2 : TapeOk T2) : SatS (tailW [.val sc, .own T2, .val q, .no, .no, .no, .no, .no, .no, .no, .no, .no]) N (fun d _ => d = .bool true) B C X := by
  unfold tailW
  walk_at "mo"
  refine pickI_go [2, 7, 40] 2 40 hT2 rfl (by decide) (by decide) (by decide) fun u T3 _ u0 u1 hT3 => ?_
  walk_at "mo"
  refine draw_go hT3 (by omega) (by omega) fun y T4 y0 y1 hT4 => ?_
  walk_at "mo"
  have hm : 1 ≤ 1 + y ∧ 1 + y ≤ 40 := ⟨by omega, by omega⟩
  obtain ⟨d', D', hF⟩ := fine_all hm.1 hm.2 hq (Mx.of hm.1 hm.2 hq hs)
  have e1 := hF.f1 12 (by decide)
  rw [rfin_t] at e1
  refine satP_of e1 ?_
  walk_at "mo"
  refine satP_of (hF.f2 12 (by decide)) ?_
  walk_at "mo"
  refine v_neDr hF.ex.pn (by decide) ?_
  walk_at "mo"
  have hbig := big_of hq (by decide)
  have h12 : 6 ≤ 12 := by decide
  with_reducible exact tailX_go hT4 hq hF h12 hm hbig hz

theorem tailY_go {sc q T2 : PyData} {D : Den} {N B C : Mi.Env → Prop} {X : Str → PyData → Mi.Env → Prop} (hq : EX 6 true q D) (hz : D.size ≤ 1000) (hs : Sm q) (hT2 : TapeOk T2) : SatS (tailY [.val sc, .own T2, .val q, .no, .no, .no, .no, .no, .no, .no, .no, .no]) N (fun d _ => d = .bool true) B C X := by
  rw [tailY_eq]
  with_reducible exact tailW_go hq hz hs hT2
theorem law_eq : m_law =
  (mSeq (mSetO 1 (mCall (runP 2 m__law_start) [(mVar 0)]))
  (mSeq (mSet 2 (mIf (mB (mOp fGt (mCallI (runI 4 m__law_draw) 1 [(mC (.int (3)))]) (mC (.int (0))))) (mCallI (runI 5 m__law_series) 1 []) (mCallI (r__law_quantity 12) 1 [(mC (.int (3)))])))
  tailY)) := by
  unfold m_law tailY tailW tailX
  with_reducible rfl
set_option maxHeartbeats 16000000 in
theorem law_true (ns : List Int) (hl : ns.length ≤ 63) : runP 12 m_law [scr ns] = .ok (.bool true) := by
  refine SatP.eq (run_P ?_)
  walk_at "env"
  rw [law_eq]
  walk_at "mo"
  refine start_go hl fun T0 hT0 => ?_
  walk_at "mo"
  refine draw_go hT0 (by omega) (by omega) fun c T1 c0 c1 hT1 => ?_
  walk_at "mo"
  refine if_c (fun g => ?_) (fun g => ?_)
  · walk_at "mo"
    refine series_go hT1 fun d D T2 h1 h2 hT2 => ?_
    walk_at "mo"
    have hz : D.size ≤ 1000 := by omega
    with_reducible exact tailY_go h1 hz h2.2 hT2
  · walk_at "mo"
    refine quantity_go (k := 3) (by decide) hT1 fun d D T2 h1 h2 hT2 => ?_
    walk_at "mo"
    have hz : D.size ≤ 1000 := Nat.le_trans h2.1 (by decide)
    have h6 := h1.up (m := 6) (by decide)
    with_reducible exact tailY_go h6 hz h2.2 hT2

end K11

set_option Elab.async false
set_option linter.all false
set_option maxRecDepth 100000
namespace K11
open PySem PySem.Spec PyProof.Rows L2 Mi
set_option maxHeartbeats 8000000 in
theorem all_mk {l : PySem.W.OpenLaw} {w : World} {K : PySem.W.Frag} {h : Heap} {mg : Str → Option Value} {fa : Addr} (X : K.In h) (G : h.Ns mainGlobals mg) (hfa : mg "law" = some (.ref fa))
    {f0 : Addr} {od0 an0 : Option Addr} {sl0 : Array (Option Value)} {oc0 kV0 dc0 pm0 cd0 ct0 : Value} (a0 : PySem.W.nsIn K mainGlobals "reach" = some (some (.ref f0))) (l0 : K.lookup f0 = some ⟨oc0, od0, .func (PySem.W.fnOf "reach" "reach" (defArgs s_reach) (defBody s_reach) (defScope s_reach) .none kV0 dc0 pm0 an0 cd0 ct0), sl0⟩) (c0 : PySem.W.codeIn K cd0 "reach" = true) (k0 : PySem.W.keepIn K (.ref f0) = true)
    {f1 : Addr} {od1 an1 : Option Addr} {sl1 : Array (Option Value)} {oc1 kV1 dc1 pm1 cd1 ct1 : Value} (a1 : PySem.W.nsIn K mainGlobals "angle_reach" = some (some (.ref f1))) (l1 : K.lookup f1 = some ⟨oc1, od1, .func (PySem.W.fnOf "angle_reach" "angle_reach" (defArgs s_angle_reach) (defBody s_angle_reach) (defScope s_angle_reach) .none kV1 dc1 pm1 an1 cd1 ct1), sl1⟩) (c1 : PySem.W.codeIn K cd1 "angle_reach" = true) (k1 : PySem.W.keepIn K (.ref f1) = true)
    {f2 : Addr} {od2 an2 : Option Addr} {sl2 : Array (Option Value)} {oc2 kV2 dc2 pm2 cd2 ct2 : Value} (a2 : PySem.W.nsIn K mainGlobals "_rounded_up" = some (some (.ref f2))) (l2 : K.lookup f2 = some ⟨oc2, od2, .func (PySem.W.fnOf "_rounded_up" "_rounded_up" (defArgs s__rounded_up) (defBody s__rounded_up) (defScope s__rounded_up) .none kV2 dc2 pm2 an2 cd2 ct2), sl2⟩) (c2 : PySem.W.codeIn K cd2 "_rounded_up" = true) (k2 : PySem.W.keepIn K (.ref f2) = true)
    {f3 : Addr} {od3 an3 : Option Addr} {sl3 : Array (Option Value)} {oc3 kV3 dc3 pm3 cd3 ct3 : Value} (a3 : PySem.W.nsIn K mainGlobals "_most_and_reach" = some (some (.ref f3))) (l3 : K.lookup f3 = some ⟨oc3, od3, .func (PySem.W.fnOf "_most_and_reach" "_most_and_reach" (defArgs s__most_and_reach) (defBody s__most_and_reach) (defScope s__most_and_reach) .none kV3 dc3 pm3 an3 cd3 ct3), sl3⟩) (c3 : PySem.W.codeIn K cd3 "_most_and_reach" = true) (k3 : PySem.W.keepIn K (.ref f3) = true)
    {f4 : Addr} {od4 an4 : Option Addr} {sl4 : Array (Option Value)} {oc4 kV4 dc4 pm4 cd4 ct4 : Value} (a4 : PySem.W.nsIn K mainGlobals "_uncapped" = some (some (.ref f4))) (l4 : K.lookup f4 = some ⟨oc4, od4, .func (PySem.W.fnOf "_uncapped" "_uncapped" (defArgs s__uncapped) (defBody s__uncapped) (defScope s__uncapped) .none kV4 dc4 pm4 an4 cd4 ct4), sl4⟩) (c4 : PySem.W.codeIn K cd4 "_uncapped" = true) (k4 : PySem.W.keepIn K (.ref f4) = true)
    {f5 : Addr} {od5 an5 : Option Addr} {sl5 : Array (Option Value)} {oc5 kV5 dc5 pm5 cd5 ct5 : Value} (a5 : PySem.W.nsIn K mainGlobals "_wave_reach" = some (some (.ref f5))) (l5 : K.lookup f5 = some ⟨oc5, od5, .func (PySem.W.fnOf "_wave_reach" "_wave_reach" (defArgs s__wave_reach) (defBody s__wave_reach) (defScope s__wave_reach) .none kV5 dc5 pm5 an5 cd5 ct5), sl5⟩) (c5 : PySem.W.codeIn K cd5 "_wave_reach" = true) (k5 : PySem.W.keepIn K (.ref f5) = true)
    {f6 : Addr} {od6 an6 : Option Addr} {sl6 : Array (Option Value)} {oc6 kV6 dc6 pm6 cd6 ct6 : Value} (a6 : PySem.W.nsIn K mainGlobals "arch" = some (some (.ref f6))) (l6 : K.lookup f6 = some ⟨oc6, od6, .func (PySem.W.fnOf "arch" "arch" (defArgs s_arch) (defBody s_arch) (defScope s_arch) .none kV6 dc6 pm6 an6 cd6 ct6), sl6⟩) (c6 : PySem.W.codeIn K cd6 "arch" = true) (k6 : PySem.W.keepIn K (.ref f6) = true)
    {f7 : Addr} {od7 an7 : Option Addr} {sl7 : Array (Option Value)} {oc7 kV7 dc7 pm7 cd7 ct7 : Value} (a7 : PySem.W.nsIn K mainGlobals "wave" = some (some (.ref f7))) (l7 : K.lookup f7 = some ⟨oc7, od7, .func (PySem.W.fnOf "wave" "wave" (defArgs s_wave) (defBody s_wave) (defScope s_wave) .none kV7 dc7 pm7 an7 cd7 ct7), sl7⟩) (c7 : PySem.W.codeIn K cd7 "wave" = true) (k7 : PySem.W.keepIn K (.ref f7) = true)
    {f8 : Addr} {od8 an8 : Option Addr} {sl8 : Array (Option Value)} {oc8 kV8 dc8 pm8 cd8 ct8 : Value} (a8 : PySem.W.nsIn K mainGlobals "changes" = some (some (.ref f8))) (l8 : K.lookup f8 = some ⟨oc8, od8, .func (PySem.W.fnOf "changes" "changes" (defArgs s_changes) (defBody s_changes) (defScope s_changes) .none kV8 dc8 pm8 an8 cd8 ct8), sl8⟩) (c8 : PySem.W.codeIn K cd8 "changes" = true) (k8 : PySem.W.keepIn K (.ref f8) = true)
    {f9 : Addr} {od9 an9 : Option Addr} {sl9 : Array (Option Value)} {oc9 kV9 dc9 pm9 cd9 ct9 : Value} (a9 : PySem.W.nsIn K mainGlobals "_scan" = some (some (.ref f9))) (l9 : K.lookup f9 = some ⟨oc9, od9, .func (PySem.W.fnOf "_scan" "_scan" (defArgs s__scan) (defBody s__scan) (defScope s__scan) .none kV9 dc9 pm9 an9 cd9 ct9), sl9⟩) (c9 : PySem.W.codeIn K cd9 "_scan" = true) (k9 : PySem.W.keepIn K (.ref f9) = true)
    {f10 : Addr} {od10 an10 : Option Addr} {sl10 : Array (Option Value)} {oc10 kV10 dc10 pm10 cd10 ct10 : Value} (a10 : PySem.W.nsIn K mainGlobals "finer" = some (some (.ref f10))) (l10 : K.lookup f10 = some ⟨oc10, od10, .func (PySem.W.fnOf "finer" "finer" (defArgs s_finer) (defBody s_finer) (defScope s_finer) .none kV10 dc10 pm10 an10 cd10 ct10), sl10⟩) (c10 : PySem.W.codeIn K cd10 "finer" = true) (k10 : PySem.W.keepIn K (.ref f10) = true)
    {f11 : Addr} {od11 an11 : Option Addr} {sl11 : Array (Option Value)} {oc11 kV11 dc11 pm11 cd11 ct11 : Value} (a11 : PySem.W.nsIn K mainGlobals "fine_moments" = some (some (.ref f11))) (l11 : K.lookup f11 = some ⟨oc11, od11, .func (PySem.W.fnOf "fine_moments" "fine_moments" (defArgs s_fine_moments) (defBody s_fine_moments) (defScope s_fine_moments) .none kV11 dc11 pm11 an11 cd11 ct11), sl11⟩) (c11 : PySem.W.codeIn K cd11 "fine_moments" = true) (k11 : PySem.W.keepIn K (.ref f11) = true)
    {f12 : Addr} {od12 an12 : Option Addr} {sl12 : Array (Option Value)} {oc12 kV12 dc12 pm12 cd12 ct12 : Value} (a12 : PySem.W.nsIn K mainGlobals "_finer_angle" = some (some (.ref f12))) (l12 : K.lookup f12 = some ⟨oc12, od12, .func (PySem.W.fnOf "_finer_angle" "_finer_angle" (defArgs s__finer_angle) (defBody s__finer_angle) (defScope s__finer_angle) .none kV12 dc12 pm12 an12 cd12 ct12), sl12⟩) (c12 : PySem.W.codeIn K cd12 "_finer_angle" = true) (k12 : PySem.W.keepIn K (.ref f12) = true)
    {f13 : Addr} {od13 an13 : Option Addr} {sl13 : Array (Option Value)} {oc13 kV13 dc13 pm13 cd13 ct13 : Value} (a13 : PySem.W.nsIn K mainGlobals "_law_start" = some (some (.ref f13))) (l13 : K.lookup f13 = some ⟨oc13, od13, .func (PySem.W.fnOf "_law_start" "_law_start" (defArgs s__law_start) (defBody s__law_start) (defScope s__law_start) .none kV13 dc13 pm13 an13 cd13 ct13), sl13⟩) (c13 : PySem.W.codeIn K cd13 "_law_start" = true) (k13 : PySem.W.keepIn K (.ref f13) = true)
    {f14 : Addr} {od14 an14 : Option Addr} {sl14 : Array (Option Value)} {oc14 kV14 dc14 pm14 cd14 ct14 : Value} (a14 : PySem.W.nsIn K mainGlobals "_law_draw" = some (some (.ref f14))) (l14 : K.lookup f14 = some ⟨oc14, od14, .func (PySem.W.fnOf "_law_draw" "_law_draw" (defArgs s__law_draw) (defBody s__law_draw) (defScope s__law_draw) .none kV14 dc14 pm14 an14 cd14 ct14), sl14⟩) (c14 : PySem.W.codeIn K cd14 "_law_draw" = true) (k14 : PySem.W.keepIn K (.ref f14) = true)
    {f15 : Addr} {od15 an15 : Option Addr} {sl15 : Array (Option Value)} {oc15 kV15 dc15 pm15 cd15 ct15 : Value} (a15 : PySem.W.nsIn K mainGlobals "_law_pick" = some (some (.ref f15))) (l15 : K.lookup f15 = some ⟨oc15, od15, .func (PySem.W.fnOf "_law_pick" "_law_pick" (defArgs s__law_pick) (defBody s__law_pick) (defScope s__law_pick) .none kV15 dc15 pm15 an15 cd15 ct15), sl15⟩) (c15 : PySem.W.codeIn K cd15 "_law_pick" = true) (k15 : PySem.W.keepIn K (.ref f15) = true)
    {f16 : Addr} {od16 an16 : Option Addr} {sl16 : Array (Option Value)} {oc16 kV16 dc16 pm16 cd16 ct16 : Value} (a16 : PySem.W.nsIn K mainGlobals "_law_number" = some (some (.ref f16))) (l16 : K.lookup f16 = some ⟨oc16, od16, .func (PySem.W.fnOf "_law_number" "_law_number" (defArgs s__law_number) (defBody s__law_number) (defScope s__law_number) .none kV16 dc16 pm16 an16 cd16 ct16), sl16⟩) (c16 : PySem.W.codeIn K cd16 "_law_number" = true) (k16 : PySem.W.keepIn K (.ref f16) = true)
    {f17 : Addr} {od17 an17 : Option Addr} {sl17 : Array (Option Value)} {oc17 kV17 dc17 pm17 cd17 ct17 : Value} (a17 : PySem.W.nsIn K mainGlobals "_law_divisor" = some (some (.ref f17))) (l17 : K.lookup f17 = some ⟨oc17, od17, .func (PySem.W.fnOf "_law_divisor" "_law_divisor" (defArgs s__law_divisor) (defBody s__law_divisor) (defScope s__law_divisor) .none kV17 dc17 pm17 an17 cd17 ct17), sl17⟩) (c17 : PySem.W.codeIn K cd17 "_law_divisor" = true) (k17 : PySem.W.keepIn K (.ref f17) = true)
    {f18 : Addr} {od18 an18 : Option Addr} {sl18 : Array (Option Value)} {oc18 kV18 dc18 pm18 cd18 ct18 : Value} (a18 : PySem.W.nsIn K mainGlobals "_law_angle" = some (some (.ref f18))) (l18 : K.lookup f18 = some ⟨oc18, od18, .func (PySem.W.fnOf "_law_angle" "_law_angle" (defArgs s__law_angle) (defBody s__law_angle) (defScope s__law_angle) .none kV18 dc18 pm18 an18 cd18 ct18), sl18⟩) (c18 : PySem.W.codeIn K cd18 "_law_angle" = true) (k18 : PySem.W.keepIn K (.ref f18) = true)
    {f19 : Addr} {od19 an19 : Option Addr} {sl19 : Array (Option Value)} {oc19 kV19 dc19 pm19 cd19 ct19 : Value} (a19 : PySem.W.nsIn K mainGlobals "_law_quantity" = some (some (.ref f19))) (l19 : K.lookup f19 = some ⟨oc19, od19, .func (PySem.W.fnOf "_law_quantity" "_law_quantity" (defArgs s__law_quantity) (defBody s__law_quantity) (defScope s__law_quantity) .none kV19 dc19 pm19 an19 cd19 ct19), sl19⟩) (c19 : PySem.W.codeIn K cd19 "_law_quantity" = true) (k19 : PySem.W.keepIn K (.ref f19) = true)
    {f20 : Addr} {od20 an20 : Option Addr} {sl20 : Array (Option Value)} {oc20 kV20 dc20 pm20 cd20 ct20 : Value} (a20 : PySem.W.nsIn K mainGlobals "_law_wave_part" = some (some (.ref f20))) (l20 : K.lookup f20 = some ⟨oc20, od20, .func (PySem.W.fnOf "_law_wave_part" "_law_wave_part" (defArgs s__law_wave_part) (defBody s__law_wave_part) (defScope s__law_wave_part) .none kV20 dc20 pm20 an20 cd20 ct20), sl20⟩) (c20 : PySem.W.codeIn K cd20 "_law_wave_part" = true) (k20 : PySem.W.keepIn K (.ref f20) = true)
    {f21 : Addr} {od21 an21 : Option Addr} {sl21 : Array (Option Value)} {oc21 kV21 dc21 pm21 cd21 ct21 : Value} (a21 : PySem.W.nsIn K mainGlobals "_law_series" = some (some (.ref f21))) (l21 : K.lookup f21 = some ⟨oc21, od21, .func (PySem.W.fnOf "_law_series" "_law_series" (defArgs s__law_series) (defBody s__law_series) (defScope s__law_series) .none kV21 dc21 pm21 an21 cd21 ct21), sl21⟩) (c21 : PySem.W.codeIn K cd21 "_law_series" = true) (k21 : PySem.W.keepIn K (.ref f21) = true)
    {f22 : Addr} {od22 an22 : Option Addr} {sl22 : Array (Option Value)} {oc22 kV22 dc22 pm22 cd22 ct22 : Value} (a22 : PySem.W.nsIn K mainGlobals "_law_arch" = some (some (.ref f22))) (l22 : K.lookup f22 = some ⟨oc22, od22, .func (PySem.W.fnOf "_law_arch" "_law_arch" (defArgs s__law_arch) (defBody s__law_arch) (defScope s__law_arch) .none kV22 dc22 pm22 an22 cd22 ct22), sl22⟩) (c22 : PySem.W.codeIn K cd22 "_law_arch" = true) (k22 : PySem.W.keepIn K (.ref f22) = true)
    {f23 : Addr} {od23 an23 : Option Addr} {sl23 : Array (Option Value)} {oc23 kV23 dc23 pm23 cd23 ct23 : Value} (a23 : PySem.W.nsIn K mainGlobals "_law_wave" = some (some (.ref f23))) (l23 : K.lookup f23 = some ⟨oc23, od23, .func (PySem.W.fnOf "_law_wave" "_law_wave" (defArgs s__law_wave) (defBody s__law_wave) (defScope s__law_wave) .none kV23 dc23 pm23 an23 cd23 ct23), sl23⟩) (c23 : PySem.W.codeIn K cd23 "_law_wave" = true) (k23 : PySem.W.keepIn K (.ref f23) = true)
    {f24 : Addr} {od24 an24 : Option Addr} {sl24 : Array (Option Value)} {oc24 kV24 dc24 pm24 cd24 ct24 : Value} (a24 : PySem.W.nsIn K mainGlobals "_law_angle_at" = some (some (.ref f24))) (l24 : K.lookup f24 = some ⟨oc24, od24, .func (PySem.W.fnOf "_law_angle_at" "_law_angle_at" (defArgs s__law_angle_at) (defBody s__law_angle_at) (defScope s__law_angle_at) .none kV24 dc24 pm24 an24 cd24 ct24), sl24⟩) (c24 : PySem.W.codeIn K cd24 "_law_angle_at" = true) (k24 : PySem.W.keepIn K (.ref f24) = true)
    {f25 : Addr} {od25 an25 : Option Addr} {sl25 : Array (Option Value)} {oc25 kV25 dc25 pm25 cd25 ct25 : Value} (a25 : PySem.W.nsIn K mainGlobals "_law_value" = some (some (.ref f25))) (l25 : K.lookup f25 = some ⟨oc25, od25, .func (PySem.W.fnOf "_law_value" "_law_value" (defArgs s__law_value) (defBody s__law_value) (defScope s__law_value) .none kV25 dc25 pm25 an25 cd25 ct25), sl25⟩) (c25 : PySem.W.codeIn K cd25 "_law_value" = true) (k25 : PySem.W.keepIn K (.ref f25) = true)
    {f26 : Addr} {od26 an26 : Option Addr} {sl26 : Array (Option Value)} {oc26 kV26 dc26 pm26 cd26 ct26 : Value} (a26 : PySem.W.nsIn K mainGlobals "_law_changes" = some (some (.ref f26))) (l26 : K.lookup f26 = some ⟨oc26, od26, .func (PySem.W.fnOf "_law_changes" "_law_changes" (defArgs s__law_changes) (defBody s__law_changes) (defScope s__law_changes) .none kV26 dc26 pm26 an26 cd26 ct26), sl26⟩) (c26 : PySem.W.codeIn K cd26 "_law_changes" = true) (k26 : PySem.W.keepIn K (.ref f26) = true)
    {f27 : Addr} {od27 an27 : Option Addr} {sl27 : Array (Option Value)} {oc27 kV27 dc27 pm27 cd27 ct27 : Value} (a27 : PySem.W.nsIn K mainGlobals "_law_finer" = some (some (.ref f27))) (l27 : K.lookup f27 = some ⟨oc27, od27, .func (PySem.W.fnOf "_law_finer" "_law_finer" (defArgs s__law_finer) (defBody s__law_finer) (defScope s__law_finer) .none kV27 dc27 pm27 an27 cd27 ct27), sl27⟩) (c27 : PySem.W.codeIn K cd27 "_law_finer" = true) (k27 : PySem.W.keepIn K (.ref f27) = true)
    {f28 : Addr} {od28 an28 : Option Addr} {sl28 : Array (Option Value)} {oc28 kV28 dc28 pm28 cd28 ct28 : Value} (a28 : PySem.W.nsIn K mainGlobals "law" = some (some (.ref f28))) (l28 : K.lookup f28 = some ⟨oc28, od28, .func (PySem.W.fnOf "law" "law" (defArgs s_law) (defBody s_law) (defScope s_law) .none kV28 dc28 pm28 an28 cd28 ct28), sl28⟩) (c28 : PySem.W.codeIn K cd28 "law" = true) (k28 : PySem.W.keepIn K (.ref f28) = true)
    {t0 : Tok} (cn0 : PySem.W.nsIn K mainGlobals "WAVE_MOST" = some (some (.int 1000000 t0)))
    {t1 : Tok} (cn1 : PySem.W.nsIn K mainGlobals "TURN" = some (some (.int 1296000 t1)))
    {t2 : Tok} (cn2 : PySem.W.nsIn K mainGlobals "HALF_TURN" = some (some (.int 648000 t2)))
    {t3 : Tok} (cn3 : PySem.W.nsIn K mainGlobals "QUARTER" = some (some (.int 324000 t3)))
    {t4 : Tok} (cn4 : PySem.W.nsIn K mainGlobals "ARCH_TOP" = some (some (.int 314928000000 t4)))
    {t5 : Tok} (cn5 : PySem.W.nsIn K mainGlobals "ARCH_SCALE" = some (some (.int 68024448000 t5)))
    (z0 : PySem.W.nsIn K mainGlobals "abs" = some none)
    (z1 : PySem.W.nsIn K mainGlobals "int" = some none)
    (z2 : PySem.W.nsIn K mainGlobals "isinstance" = some none)
    (z3 : PySem.W.nsIn K mainGlobals "len" = some none)
    (z4 : PySem.W.nsIn K mainGlobals "list" = some none)
    (z5 : PySem.W.nsIn K mainGlobals "max" = some none)
    (z6 : PySem.W.nsIn K mainGlobals "min" = some none)
    (z7 : PySem.W.nsIn K mainGlobals "range" = some none)
    (z8 : PySem.W.nsIn K mainGlobals "sum" = some none)
    (z9 : PySem.W.nsIn K mainGlobals "tuple" = some none)
    (z10 : PySem.W.nsIn K mainGlobals "zip" = some none)
    {C0 : Addr} (ca0 : PySem.W.nsIn K mainGlobals "Ladder" = some (some (.ref C0))) (pg0 : PySem.W.plainGet K C0 Str.empty = true) (hd0 : PySem.W.hasDictIn K C0 = true) (po0 : PySem.W.plainOver K C0 = true) (sa0 : PySem.W.findIn K (.ref C0) "__setattr__" = some (some (.builtin "object.__setattr__"))) (mk0 : PySem.W.makesIn K C0 = true) (kc0 : PySem.W.keepIn K (.ref C0) = true)
    (no0_0 : PySem.W.findIn K (.ref C0) "_q" = some none)
    (no0_1 : PySem.W.findIn K (.ref C0) "_reaches" = some none)
    (no0_2 : PySem.W.findIn K (.ref C0) "_steps" = some none)
    {mf0_0 : Addr} {mo0_0 mn0_0 : Option Addr} {ms0_0 : Array (Option Value)} {xc0_0 xV0_0 xd0_0 xp0_0 xe0_0 xt0_0 : Value} (ma0_0 : PySem.W.findIn K (.ref C0) "__init__" = some (some (.ref mf0_0))) (mi0_0 : PySem.W.isFn K (.ref mf0_0) = true) (ml0_0 : K.lookup mf0_0 = some ⟨xc0_0, mo0_0, .func (PySem.W.fnOf "__init__" "Ladder.__init__" (defArgs s_Ladder__init) (defBody s_Ladder__init) (defScope s_Ladder__init) .none xV0_0 xd0_0 xp0_0 mn0_0 xe0_0 xt0_0), ms0_0⟩) (mc0_0 : PySem.W.codeIn K xe0_0 "Ladder.__init__" = true) (mk0_0 : PySem.W.keepIn K (.ref mf0_0) = true)
    {mf0_1 : Addr} {mo0_1 mn0_1 : Option Addr} {ms0_1 : Array (Option Value)} {xc0_1 xV0_1 xd0_1 xp0_1 xe0_1 xt0_1 : Value} (ma0_1 : PySem.W.findIn K (.ref C0) "longest" = some (some (.ref mf0_1))) (mi0_1 : PySem.W.isFn K (.ref mf0_1) = true) (ml0_1 : K.lookup mf0_1 = some ⟨xc0_1, mo0_1, .func (PySem.W.fnOf "longest" "Ladder.longest" (defArgs s_Ladder__longest) (defBody s_Ladder__longest) (defScope s_Ladder__longest) .none xV0_1 xd0_1 xp0_1 mn0_1 xe0_1 xt0_1), ms0_1⟩) (mc0_1 : PySem.W.codeIn K xe0_1 "Ladder.longest" = true) (mk0_1 : PySem.W.keepIn K (.ref mf0_1) = true)
    {mf0_2 : Addr} {mo0_2 mn0_2 : Option Addr} {ms0_2 : Array (Option Value)} {xc0_2 xV0_2 xd0_2 xp0_2 xe0_2 xt0_2 : Value} (ma0_2 : PySem.W.findIn K (.ref C0) "_climb" = some (some (.ref mf0_2))) (mi0_2 : PySem.W.isFn K (.ref mf0_2) = true) (ml0_2 : K.lookup mf0_2 = some ⟨xc0_2, mo0_2, .func (PySem.W.fnOf "_climb" "Ladder._climb" (defArgs s_Ladder___climb) (defBody s_Ladder___climb) (defScope s_Ladder___climb) .none xV0_2 xd0_2 xp0_2 mn0_2 xe0_2 xt0_2), ms0_2⟩) (mc0_2 : PySem.W.codeIn K xe0_2 "Ladder._climb" = true) (mk0_2 : PySem.W.keepIn K (.ref mf0_2) = true)
    {mf0_3 : Addr} {mo0_3 mn0_3 : Option Addr} {ms0_3 : Array (Option Value)} {xc0_3 xV0_3 xd0_3 xp0_3 xe0_3 xt0_3 : Value} (ma0_3 : PySem.W.findIn K (.ref C0) "_highest" = some (some (.ref mf0_3))) (mi0_3 : PySem.W.isFn K (.ref mf0_3) = true) (ml0_3 : K.lookup mf0_3 = some ⟨xc0_3, mo0_3, .func (PySem.W.fnOf "_highest" "Ladder._highest" (defArgs s_Ladder___highest) (defBody s_Ladder___highest) (defScope s_Ladder___highest) .none xV0_3 xd0_3 xp0_3 mn0_3 xe0_3 xt0_3), ms0_3⟩) (mc0_3 : PySem.W.codeIn K xe0_3 "Ladder._highest" = true) (mk0_3 : PySem.W.keepIn K (.ref mf0_3) = true)
    {mf0_4 : Addr} {mo0_4 mn0_4 : Option Addr} {ms0_4 : Array (Option Value)} {xc0_4 xV0_4 xd0_4 xp0_4 xe0_4 xt0_4 : Value} (ma0_4 : PySem.W.findIn K (.ref C0) "_guess" = some (some (.ref mf0_4))) (mi0_4 : PySem.W.isFn K (.ref mf0_4) = true) (ml0_4 : K.lookup mf0_4 = some ⟨xc0_4, mo0_4, .func (PySem.W.fnOf "_guess" "Ladder._guess" (defArgs s_Ladder___guess) (defBody s_Ladder___guess) (defScope s_Ladder___guess) .none xV0_4 xd0_4 xp0_4 mn0_4 xe0_4 xt0_4), ms0_4⟩) (mc0_4 : PySem.W.codeIn K xe0_4 "Ladder._guess" = true) (mk0_4 : PySem.W.keepIn K (.ref mf0_4) = true)
    {mf0_5 : Addr} {mo0_5 mn0_5 : Option Addr} {ms0_5 : Array (Option Value)} {xc0_5 xV0_5 xd0_5 xp0_5 xe0_5 xt0_5 : Value} (ma0_5 : PySem.W.findIn K (.ref C0) "_add" = some (some (.ref mf0_5))) (mi0_5 : PySem.W.isFn K (.ref mf0_5) = true) (ml0_5 : K.lookup mf0_5 = some ⟨xc0_5, mo0_5, .func (PySem.W.fnOf "_add" "Ladder._add" (defArgs s_Ladder___add) (defBody s_Ladder___add) (defScope s_Ladder___add) .none xV0_5 xd0_5 xp0_5 mn0_5 xe0_5 xt0_5), ms0_5⟩) (mc0_5 : PySem.W.codeIn K xe0_5 "Ladder._add" = true) (mk0_5 : PySem.W.keepIn K (.ref mf0_5) = true)
    {C1 : Addr} (ca1 : PySem.W.nsIn K mainGlobals "Plan" = some (some (.ref C1))) (pg1 : PySem.W.plainGet K C1 Str.empty = true) (hd1 : PySem.W.hasDictIn K C1 = true) (po1 : PySem.W.plainOver K C1 = true) (sa1 : PySem.W.findIn K (.ref C1) "__setattr__" = some (some (.builtin "object.__setattr__"))) (mk1 : PySem.W.makesIn K C1 = true) (kc1 : PySem.W.keepIn K (.ref C1) = true)
    (no1_0 : PySem.W.findIn K (.ref C1) "_indexes" = some none)
    (no1_1 : PySem.W.findIn K (.ref C1) "_last" = some none)
    (no1_2 : PySem.W.findIn K (.ref C1) "_rows" = some none)
    {mf1_0 : Addr} {mo1_0 mn1_0 : Option Addr} {ms1_0 : Array (Option Value)} {xc1_0 xV1_0 xd1_0 xp1_0 xe1_0 xt1_0 : Value} (ma1_0 : PySem.W.findIn K (.ref C1) "__init__" = some (some (.ref mf1_0))) (mi1_0 : PySem.W.isFn K (.ref mf1_0) = true) (ml1_0 : K.lookup mf1_0 = some ⟨xc1_0, mo1_0, .func (PySem.W.fnOf "__init__" "Plan.__init__" (defArgs s_Plan__init) (defBody s_Plan__init) (defScope s_Plan__init) .none xV1_0 xd1_0 xp1_0 mn1_0 xe1_0 xt1_0), ms1_0⟩) (mc1_0 : PySem.W.codeIn K xe1_0 "Plan.__init__" = true) (mk1_0 : PySem.W.keepIn K (.ref mf1_0) = true)
    {mf1_1 : Addr} {mo1_1 mn1_1 : Option Addr} {ms1_1 : Array (Option Value)} {xc1_1 xV1_1 xd1_1 xp1_1 xe1_1 xt1_1 : Value} (ma1_1 : PySem.W.findIn K (.ref C1) "value" = some (some (.ref mf1_1))) (mi1_1 : PySem.W.isFn K (.ref mf1_1) = true) (ml1_1 : K.lookup mf1_1 = some ⟨xc1_1, mo1_1, .func (PySem.W.fnOf "value" "Plan.value" (defArgs s_Plan__value) (defBody s_Plan__value) (defScope s_Plan__value) .none xV1_1 xd1_1 xp1_1 mn1_1 xe1_1 xt1_1), ms1_1⟩) (mc1_1 : PySem.W.codeIn K xe1_1 "Plan.value" = true) (mk1_1 : PySem.W.keepIn K (.ref mf1_1) = true)
    {mf1_2 : Addr} {mo1_2 mn1_2 : Option Addr} {ms1_2 : Array (Option Value)} {xc1_2 xV1_2 xd1_2 xp1_2 xe1_2 xt1_2 : Value} (ma1_2 : PySem.W.findIn K (.ref C1) "_add_quantity" = some (some (.ref mf1_2))) (mi1_2 : PySem.W.isFn K (.ref mf1_2) = true) (ml1_2 : K.lookup mf1_2 = some ⟨xc1_2, mo1_2, .func (PySem.W.fnOf "_add_quantity" "Plan._add_quantity" (defArgs s_Plan___add_quantity) (defBody s_Plan___add_quantity) (defScope s_Plan___add_quantity) .none xV1_2 xd1_2 xp1_2 mn1_2 xe1_2 xt1_2), ms1_2⟩) (mc1_2 : PySem.W.codeIn K xe1_2 "Plan._add_quantity" = true) (mk1_2 : PySem.W.keepIn K (.ref mf1_2) = true)
    {mf1_3 : Addr} {mo1_3 mn1_3 : Option Addr} {ms1_3 : Array (Option Value)} {xc1_3 xV1_3 xd1_3 xp1_3 xe1_3 xt1_3 : Value} (ma1_3 : PySem.W.findIn K (.ref C1) "_add_angle" = some (some (.ref mf1_3))) (mi1_3 : PySem.W.isFn K (.ref mf1_3) = true) (ml1_3 : K.lookup mf1_3 = some ⟨xc1_3, mo1_3, .func (PySem.W.fnOf "_add_angle" "Plan._add_angle" (defArgs s_Plan___add_angle) (defBody s_Plan___add_angle) (defScope s_Plan___add_angle) .none xV1_3 xd1_3 xp1_3 mn1_3 xe1_3 xt1_3), ms1_3⟩) (mc1_3 : PySem.W.codeIn K xe1_3 "Plan._add_angle" = true) (mk1_3 : PySem.W.keepIn K (.ref mf1_3) = true)
    {mf1_4 : Addr} {mo1_4 mn1_4 : Option Addr} {ms1_4 : Array (Option Value)} {xc1_4 xV1_4 xd1_4 xp1_4 xe1_4 xt1_4 : Value} (ma1_4 : PySem.W.findIn K (.ref C1) "_index_of" = some (some (.ref mf1_4))) (mi1_4 : PySem.W.isFn K (.ref mf1_4) = true) (ml1_4 : K.lookup mf1_4 = some ⟨xc1_4, mo1_4, .func (PySem.W.fnOf "_index_of" "Plan._index_of" (defArgs s_Plan___index_of) (defBody s_Plan___index_of) (defScope s_Plan___index_of) .none xV1_4 xd1_4 xp1_4 mn1_4 xe1_4 xt1_4), ms1_4⟩) (mc1_4 : PySem.W.codeIn K xe1_4 "Plan._index_of" = true) (mk1_4 : PySem.W.keepIn K (.ref mf1_4) = true)
    : ∃ fd : FuncData, (∀ (s : Shared) (v : Value), BindsTo s fd ⟨[v], []⟩ [("script", v)]) ∧ ∀ base : Heap, K.In base → base.Ns mainGlobals mg → FnOk l.prog w K mg base CX0 93 fa fd ["script"] (Mi.spLaw K) := by
  have e := hfa.symm.trans (PySem.W.mg_of X G a28)
  cases e
  have F0 := fun_mk (st := s_reach) l0 c0 k0
  have b0 : L2.Binds K _ ["q", "k"] [] := F0.binds (ps := ["q", "k"]) fun _ _ _ _ _ _ us hl => match us, hl with | [_, _], _ => rfl
  have F1 := fun_mk (st := s_angle_reach) l1 c1 k1
  have b1 : L2.Binds K _ ["a", "k"] [] := F1.binds (ps := ["a", "k"]) fun _ _ _ _ _ _ us hl => match us, hl with | [_, _], _ => rfl
  have F2 := fun_mk (st := s__rounded_up) l2 c2 k2
  have b2 : L2.Binds K _ ["n", "d"] [] := F2.binds (ps := ["n", "d"]) fun _ _ _ _ _ _ us hl => match us, hl with | [_, _], _ => rfl
  have F3 := fun_mk (st := s__most_and_reach) l3 c3 k3
  have b3 : L2.Binds K _ ["q", "k"] [] := F3.binds (ps := ["q", "k"]) fun _ _ _ _ _ _ us hl => match us, hl with | [_, _], _ => rfl
  have F4 := fun_mk (st := s__uncapped) l4 c4 k4
  have b4 : L2.Binds K _ ["q", "k"] [] := F4.binds (ps := ["q", "k"]) fun _ _ _ _ _ _ us hl => match us, hl with | [_, _], _ => rfl
  have F5 := fun_mk (st := s__wave_reach) l5 c5 k5
  have b5 : L2.Binds K _ ["far"] [] := F5.binds (ps := ["far"]) fun _ _ _ _ _ _ us hl => match us, hl with | [_], _ => rfl
  have F6 := fun_mk (st := s_arch) l6 c6 k6
  have b6 : L2.Binds K _ ["u"] [] := F6.binds (ps := ["u"]) fun _ _ _ _ _ _ us hl => match us, hl with | [_], _ => rfl
  have F7 := fun_mk (st := s_wave) l7 c7 k7
  have b7 : L2.Binds K _ ["x"] [] := F7.binds (ps := ["x"]) fun _ _ _ _ _ _ us hl => match us, hl with | [_], _ => rfl
  have F8 := fun_mk (st := s_changes) l8 c8 k8
  have b8 : L2.Binds K _ ["q", "start", "end"] [] := F8.binds (ps := ["q", "start", "end"]) fun _ _ _ _ _ _ us hl => match us, hl with | [_, _, _], _ => rfl
  have F9 := fun_mk (st := s__scan) l9 c9 k9
  have b9 : L2.Binds K _ ["q", "start", "end"] [] := F9.binds (ps := ["q", "start", "end"]) fun _ _ _ _ _ _ us hl => match us, hl with | [_, _, _], _ => rfl
  have F10 := fun_mk (st := s_finer) l10 c10 k10
  have b10 : L2.Binds K _ ["q", "m"] [] := F10.binds (ps := ["q", "m"]) fun _ _ _ _ _ _ us hl => match us, hl with | [_, _], _ => rfl
  have F11 := fun_mk (st := s_fine_moments) l11 c11 k11
  have b11 : L2.Binds K _ ["q", "t", "m"] [] := F11.binds (ps := ["q", "t", "m"]) fun _ _ _ _ _ _ us hl => match us, hl with | [_, _, _], _ => rfl
  have F12 := fun_mk (st := s__finer_angle) l12 c12 k12
  have b12 : L2.Binds K _ ["a", "m"] [] := F12.binds (ps := ["a", "m"]) fun _ _ _ _ _ _ us hl => match us, hl with | [_, _], _ => rfl
  have F13 := fun_mk (st := s__law_start) l13 c13 k13
  have b13 : L2.Binds K _ ["script"] [] := F13.binds (ps := ["script"]) fun _ _ _ _ _ _ us hl => match us, hl with | [_], _ => rfl
  have F14 := fun_mk (st := s__law_draw) l14 c14 k14
  have b14 : L2.Binds K _ ["state", "bound"] [] := F14.binds (ps := ["state", "bound"]) fun _ _ _ _ _ _ us hl => match us, hl with | [_, _], _ => rfl
  have F15 := fun_mk (st := s__law_pick) l15 c15 k15
  have b15 : L2.Binds K _ ["state", "things"] [] := F15.binds (ps := ["state", "things"]) fun _ _ _ _ _ _ us hl => match us, hl with | [_, _], _ => rfl
  have F16 := fun_mk (st := s__law_number) l16 c16 k16
  have b16 : L2.Binds K _ ["state"] [] := F16.binds (ps := ["state"]) fun _ _ _ _ _ _ us hl => match us, hl with | [_], _ => rfl
  have F17 := fun_mk (st := s__law_divisor) l17 c17 k17
  have b17 : L2.Binds K _ ["state"] [] := F17.binds (ps := ["state"]) fun _ _ _ _ _ _ us hl => match us, hl with | [_], _ => rfl
  have F18 := fun_mk (st := s__law_angle) l18 c18 k18
  have b18 : L2.Binds K _ ["state", "deep"] [] := F18.binds (ps := ["state", "deep"]) fun _ _ _ _ _ _ us hl => match us, hl with | [_, _], _ => rfl
  have F19 := fun_mk (st := s__law_quantity) l19 c19 k19
  have b19 : L2.Binds K _ ["state", "deep"] [] := F19.binds (ps := ["state", "deep"]) fun _ _ _ _ _ _ us hl => match us, hl with | [_, _], _ => rfl
  have F20 := fun_mk (st := s__law_wave_part) l20 c20 k20
  have b20 : L2.Binds K _ ["state"] [] := F20.binds (ps := ["state"]) fun _ _ _ _ _ _ us hl => match us, hl with | [_], _ => rfl
  have F21 := fun_mk (st := s__law_series) l21 c21 k21
  have b21 : L2.Binds K _ ["state"] [] := F21.binds (ps := ["state"]) fun _ _ _ _ _ _ us hl => match us, hl with | [_], _ => rfl
  have F22 := fun_mk (st := s__law_arch) l22 c22 k22
  have b22 : L2.Binds K _ ["u"] [] := F22.binds (ps := ["u"]) fun _ _ _ _ _ _ us hl => match us, hl with | [_], _ => rfl
  have F23 := fun_mk (st := s__law_wave) l23 c23 k23
  have b23 : L2.Binds K _ ["x"] [] := F23.binds (ps := ["x"]) fun _ _ _ _ _ _ us hl => match us, hl with | [_], _ => rfl
  have F24 := fun_mk (st := s__law_angle_at) l24 c24 k24
  have b24 : L2.Binds K _ ["a", "t"] [] := F24.binds (ps := ["a", "t"]) fun _ _ _ _ _ _ us hl => match us, hl with | [_, _], _ => rfl
  have F25 := fun_mk (st := s__law_value) l25 c25 k25
  have b25 : L2.Binds K _ ["q", "t"] [] := F25.binds (ps := ["q", "t"]) fun _ _ _ _ _ _ us hl => match us, hl with | [_, _], _ => rfl
  have F26 := fun_mk (st := s__law_changes) l26 c26 k26
  have b26 : L2.Binds K _ ["q", "start", "end"] [] := F26.binds (ps := ["q", "start", "end"]) fun _ _ _ _ _ _ us hl => match us, hl with | [_, _, _], _ => rfl
  have F27 := fun_mk (st := s__law_finer) l27 c27 k27
  have b27 : L2.Binds K _ ["q", "m"] [] := F27.binds (ps := ["q", "m"]) fun _ _ _ _ _ _ us hl => match us, hl with | [_, _], _ => rfl
  have F28 := fun_mk (st := s_law) l28 c28 k28
  have b28 : L2.Binds K _ ["script"] [] := F28.binds (ps := ["script"]) fun _ _ _ _ _ _ us hl => match us, hl with | [_], _ => rfl
  have MF0_0 := fun_mk (st := s_Ladder__init) ml0_0 mc0_0 mk0_0
  have MB0_0 : L2.Binds K _ ["self", "q"] [] := MF0_0.binds (ps := ["self", "q"]) fun _ _ _ _ _ _ us hl => match us, hl with | [_, _], _ => rfl
  have MF0_1 := fun_mk (st := s_Ladder__longest) ml0_1 mc0_1 mk0_1
  have MB0_1 : L2.Binds K _ ["self", "limit", "room"] [] := MF0_1.binds (ps := ["self", "limit", "room"]) fun _ _ _ _ _ _ us hl => match us, hl with | [_, _, _], _ => rfl
  have MF0_2 := fun_mk (st := s_Ladder___climb) ml0_2 mc0_2 mk0_2
  have MB0_2 : L2.Binds K _ ["self", "limit", "room"] [] := MF0_2.binds (ps := ["self", "limit", "room"]) fun _ _ _ _ _ _ us hl => match us, hl with | [_, _, _], _ => rfl
  have MF0_3 := fun_mk (st := s_Ladder___highest) ml0_3 mc0_3 mk0_3
  have MB0_3 : L2.Binds K _ ["self", "limit"] [] := MF0_3.binds (ps := ["self", "limit"]) fun _ _ _ _ _ _ us hl => match us, hl with | [_, _], _ => rfl
  have MF0_4 := fun_mk (st := s_Ladder___guess) ml0_4 mc0_4 mk0_4
  have MB0_4 : L2.Binds K _ ["self", "at", "limit"] [] := MF0_4.binds (ps := ["self", "at", "limit"]) fun _ _ _ _ _ _ us hl => match us, hl with | [_, _, _], _ => rfl
  have MF0_5 := fun_mk (st := s_Ladder___add) ml0_5 mc0_5 mk0_5
  have MB0_5 : L2.Binds K _ ["self", "at", "k"] [] := MF0_5.binds (ps := ["self", "at", "k"]) fun _ _ _ _ _ _ us hl => match us, hl with | [_, _, _], _ => rfl
  have CT0 : Cls_Ladder K mg C0 := ⟨⟨pg0, hd0, po0, sa0⟩, PySem.W.mg_of X G ca0, no0_0, no0_1, no0_2, ⟨_, _, ⟨mk0, ma0_0, mi0_0, kc0⟩, MF0_0, MB0_0⟩, ⟨_, _, ⟨ma0_1, mi0_1, mk0_1⟩, MF0_1, MB0_1⟩, ⟨_, _, ⟨ma0_2, mi0_2, mk0_2⟩, MF0_2, MB0_2⟩, ⟨_, _, ⟨ma0_3, mi0_3, mk0_3⟩, MF0_3, MB0_3⟩, ⟨_, _, ⟨ma0_4, mi0_4, mk0_4⟩, MF0_4, MB0_4⟩, ⟨_, _, ⟨ma0_5, mi0_5, mk0_5⟩, MF0_5, MB0_5⟩⟩
  have MF1_0 := fun_mk (st := s_Plan__init) ml1_0 mc1_0 mk1_0
  have MB1_0 : L2.Binds K _ ["self", "q"] [] := MF1_0.binds (ps := ["self", "q"]) fun _ _ _ _ _ _ us hl => match us, hl with | [_, _], _ => rfl
  have MF1_1 := fun_mk (st := s_Plan__value) ml1_1 mc1_1 mk1_1
  have MB1_1 : L2.Binds K _ ["self", "t"] [] := MF1_1.binds (ps := ["self", "t"]) fun _ _ _ _ _ _ us hl => match us, hl with | [_, _], _ => rfl
  have MF1_2 := fun_mk (st := s_Plan___add_quantity) ml1_2 mc1_2 mk1_2
  have MB1_2 : L2.Binds K _ ["self", "q", "later"] [] := MF1_2.binds (ps := ["self", "q", "later"]) fun _ _ _ _ _ _ us hl => match us, hl with | [_, _, _], _ => rfl
  have MF1_3 := fun_mk (st := s_Plan___add_angle) ml1_3 mc1_3 mk1_3
  have MB1_3 : L2.Binds K _ ["self", "a", "later"] [] := MF1_3.binds (ps := ["self", "a", "later"]) fun _ _ _ _ _ _ us hl => match us, hl with | [_, _, _], _ => rfl
  have MF1_4 := fun_mk (st := s_Plan___index_of) ml1_4 mc1_4 mk1_4
  have MB1_4 : L2.Binds K _ ["self", "row"] [] := MF1_4.binds (ps := ["self", "row"]) fun _ _ _ _ _ _ us hl => match us, hl with | [_, _], _ => rfl
  have CT1 : Cls_Plan K mg C1 := ⟨⟨pg1, hd1, po1, sa1⟩, PySem.W.mg_of X G ca1, no1_0, no1_1, no1_2, ⟨_, _, ⟨mk1, ma1_0, mi1_0, kc1⟩, MF1_0, MB1_0⟩, ⟨_, _, ⟨ma1_1, mi1_1, mk1_1⟩, MF1_1, MB1_1⟩, ⟨_, _, ⟨ma1_2, mi1_2, mk1_2⟩, MF1_2, MB1_2⟩, ⟨_, _, ⟨ma1_3, mi1_3, mk1_3⟩, MF1_3, MB1_3⟩, ⟨_, _, ⟨ma1_4, mi1_4, mk1_4⟩, MF1_4, MB1_4⟩⟩
  have T : Txt K mg := ⟨⟨_, PySem.W.mg_of X G cn0⟩, ⟨_, PySem.W.mg_of X G cn1⟩, ⟨_, PySem.W.mg_of X G cn2⟩, ⟨_, PySem.W.mg_of X G cn3⟩, ⟨_, PySem.W.mg_of X G cn4⟩, ⟨_, PySem.W.mg_of X G cn5⟩, PySem.W.mg_none_of X G z0, PySem.W.mg_none_of X G z1, PySem.W.mg_none_of X G z2, PySem.W.mg_none_of X G z3, PySem.W.mg_none_of X G z4, PySem.W.mg_none_of X G z5, PySem.W.mg_none_of X G z6, PySem.W.mg_none_of X G z7, PySem.W.mg_none_of X G z8, PySem.W.mg_none_of X G z9, PySem.W.mg_none_of X G z10, ⟨_, CT0⟩, ⟨_, CT1⟩, ⟨_, _, F0, PySem.W.mg_of X G a0, b0⟩, ⟨_, _, F1, PySem.W.mg_of X G a1, b1⟩, ⟨_, _, F2, PySem.W.mg_of X G a2, b2⟩, ⟨_, _, F3, PySem.W.mg_of X G a3, b3⟩, ⟨_, _, F4, PySem.W.mg_of X G a4, b4⟩, ⟨_, _, F5, PySem.W.mg_of X G a5, b5⟩, ⟨_, _, F6, PySem.W.mg_of X G a6, b6⟩, ⟨_, _, F7, PySem.W.mg_of X G a7, b7⟩, ⟨_, _, F8, PySem.W.mg_of X G a8, b8⟩, ⟨_, _, F9, PySem.W.mg_of X G a9, b9⟩, ⟨_, _, F10, PySem.W.mg_of X G a10, b10⟩, ⟨_, _, F11, PySem.W.mg_of X G a11, b11⟩, ⟨_, _, F12, PySem.W.mg_of X G a12, b12⟩, ⟨_, _, F13, PySem.W.mg_of X G a13, b13⟩, ⟨_, _, F14, PySem.W.mg_of X G a14, b14⟩, ⟨_, _, F15, PySem.W.mg_of X G a15, b15⟩, ⟨_, _, F16, PySem.W.mg_of X G a16, b16⟩, ⟨_, _, F17, PySem.W.mg_of X G a17, b17⟩, ⟨_, _, F18, PySem.W.mg_of X G a18, b18⟩, ⟨_, _, F19, PySem.W.mg_of X G a19, b19⟩, ⟨_, _, F20, PySem.W.mg_of X G a20, b20⟩, ⟨_, _, F21, PySem.W.mg_of X G a21, b21⟩, ⟨_, _, F22, PySem.W.mg_of X G a22, b22⟩, ⟨_, _, F23, PySem.W.mg_of X G a23, b23⟩, ⟨_, _, F24, PySem.W.mg_of X G a24, b24⟩, ⟨_, _, F25, PySem.W.mg_of X G a25, b25⟩, ⟨_, _, F26, PySem.W.mg_of X G a26, b26⟩, ⟨_, _, F27, PySem.W.mg_of X G a27, b27⟩, ⟨_, _, F28, PySem.W.mg_of X G a28, b28⟩⟩
  exact ⟨_, fun s v => .of_eq rfl, fun base _ _ => ok_law_of T F28 law_true⟩
end K11
open PySem PySem.W PyProof.Rows
set_option maxRecDepth 100000 in
set_option maxHeartbeats 0 in
theorem PySem.Challenge.cw_truealmanac_k11_fine_moments_holds : PySem.Challenge.rw_truealmanac_k11_fine_moments.Holds := by
  w_on; o_law; k_head; (case hw => w_witness2)
  k_fill
  refine L2.walk_of (l := PySem.Challenge.rw_truealmanac_k11_fine_moments) (n := 63) (k := 93) (x := "script") (CX := fun _ => L2.CX0) (sp := fun w => Mi.spLaw _) rfl (by decide) rfl ⟨rfl, by decide, by decide⟩ (fun w h Y => PySem.W.kIn_of Y) ?F (fun _ _ a ns hl _ hS => ⟨a, ns, rfl, hS, hl, fun _ => rfl⟩) (fun _ _ _ _ _ h => h)
  case F =>
    intro w mg fa h KX G hmg
    refine' K11.all_mk KX G hmg ?a0 ?l0 ?c0 ?k0 ?a1 ?l1 ?c1 ?k1 ?a2 ?l2 ?c2 ?k2 ?a3 ?l3 ?c3 ?k3 ?a4 ?l4 ?c4 ?k4 ?a5 ?l5 ?c5 ?k5 ?a6 ?l6 ?c6 ?k6 ?a7 ?l7 ?c7 ?k7 ?a8 ?l8 ?c8 ?k8 ?a9 ?l9 ?c9 ?k9 ?a10 ?l10 ?c10 ?k10 ?a11 ?l11 ?c11 ?k11 ?a12 ?l12 ?c12 ?k12 ?a13 ?l13 ?c13 ?k13 ?a14 ?l14 ?c14 ?k14 ?a15 ?l15 ?c15 ?k15 ?a16 ?l16 ?c16 ?k16 ?a17 ?l17 ?c17 ?k17 ?a18 ?l18 ?c18 ?k18 ?a19 ?l19 ?c19 ?k19 ?a20 ?l20 ?c20 ?k20 ?a21 ?l21 ?c21 ?k21 ?a22 ?l22 ?c22 ?k22 ?a23 ?l23 ?c23 ?k23 ?a24 ?l24 ?c24 ?k24 ?a25 ?l25 ?c25 ?k25 ?a26 ?l26 ?c26 ?k26 ?a27 ?l27 ?c27 ?k27 ?a28 ?l28 ?c28 ?k28 ?cn0 ?cn1 ?cn2 ?cn3 ?cn4 ?cn5 ?z0 ?z1 ?z2 ?z3 ?z4 ?z5 ?z6 ?z7 ?z8 ?z9 ?z10 ?ca0 ?pg0 ?hd0 ?po0 ?sa0 ?mk0 ?kc0 ?no0_0 ?no0_1 ?no0_2 ?ma0_0 ?mi0_0 ?ml0_0 ?mc0_0 ?mk0_0 ?ma0_1 ?mi0_1 ?ml0_1 ?mc0_1 ?mk0_1 ?ma0_2 ?mi0_2 ?ml0_2 ?mc0_2 ?mk0_2 ?ma0_3 ?mi0_3 ?ml0_3 ?mc0_3 ?mk0_3 ?ma0_4 ?mi0_4 ?ml0_4 ?mc0_4 ?mk0_4 ?ma0_5 ?mi0_5 ?ml0_5 ?mc0_5 ?mk0_5 ?ca1 ?pg1 ?hd1 ?po1 ?sa1 ?mk1 ?kc1 ?no1_0 ?no1_1 ?no1_2 ?ma1_0 ?mi1_0 ?ml1_0 ?mc1_0 ?mk1_0 ?ma1_1 ?mi1_1 ?ml1_1 ?mc1_1 ?mk1_1 ?ma1_2 ?mi1_2 ?ml1_2 ?mc1_2 ?mk1_2 ?ma1_3 ?mi1_3 ?ml1_3 ?mc1_3 ?mk1_3 ?ma1_4 ?mi1_4 ?ml1_4 ?mc1_4 ?mk1_4
    (case a0 => k_is); (case l0 => k_is); (case c0 => k_is); (case k0 => k_is); (case a1 => k_is); (case l1 => k_is)
    (case c1 => k_is); (case k1 => k_is); (case a2 => k_is); (case l2 => k_is); (case c2 => k_is); (case k2 => k_is)
    (case a3 => k_is); (case l3 => k_is); (case c3 => k_is); (case k3 => k_is); (case a4 => k_is); (case l4 => k_is)
    (case c4 => k_is); (case k4 => k_is); (case a5 => k_is); (case l5 => k_is); (case c5 => k_is); (case k5 => k_is)
    (case a6 => k_is); (case l6 => k_is); (case c6 => k_is); (case k6 => k_is); (case a7 => k_is); (case l7 => k_is)
    (case c7 => k_is); (case k7 => k_is); (case a8 => k_is); (case l8 => k_is); (case c8 => k_is); (case k8 => k_is)
    (case a9 => k_is); (case l9 => k_is); (case c9 => k_is); (case k9 => k_is); (case a10 => k_is); (case l10 => k_is)
    (case c10 => k_is); (case k10 => k_is); (case a11 => k_is); (case l11 => k_is); (case c11 => k_is); (case k11 => k_is)
    (case a12 => k_is); (case l12 => k_is); (case c12 => k_is); (case k12 => k_is); (case a13 => k_is); (case l13 => k_is)
    (case c13 => k_is); (case k13 => k_is); (case a14 => k_is); (case l14 => k_is); (case c14 => k_is); (case k14 => k_is)
    (case a15 => k_is); (case l15 => k_is); (case c15 => k_is); (case k15 => k_is); (case a16 => k_is); (case l16 => k_is)
    (case c16 => k_is); (case k16 => k_is); (case a17 => k_is); (case l17 => k_is); (case c17 => k_is); (case k17 => k_is)
    (case a18 => k_is); (case l18 => k_is); (case c18 => k_is); (case k18 => k_is); (case a19 => k_is); (case l19 => k_is)
    (case c19 => k_is); (case k19 => k_is); (case a20 => k_is); (case l20 => k_is); (case c20 => k_is); (case k20 => k_is)
    (case a21 => k_is); (case l21 => k_is); (case c21 => k_is); (case k21 => k_is); (case a22 => k_is); (case l22 => k_is)
    (case c22 => k_is); (case k22 => k_is); (case a23 => k_is); (case l23 => k_is); (case c23 => k_is); (case k23 => k_is)
    (case a24 => k_is); (case l24 => k_is); (case c24 => k_is); (case k24 => k_is); (case a25 => k_is); (case l25 => k_is)
    (case c25 => k_is); (case k25 => k_is); (case a26 => k_is); (case l26 => k_is); (case c26 => k_is); (case k26 => k_is)
    (case a27 => k_is); (case l27 => k_is); (case c27 => k_is); (case k27 => k_is); (case a28 => k_is); (case l28 => k_is)
    (case c28 => k_is); (case k28 => k_is); (case cn0 => k_is); (case cn1 => k_is); (case cn2 => k_is); (case cn3 => k_is)
    (case cn4 => k_is); (case cn5 => k_is); (case z0 => k_is); (case z1 => k_is); (case z2 => k_is); (case z3 => k_is)
    (case z4 => k_is); (case z5 => k_is); (case z6 => k_is); (case z7 => k_is); (case z8 => k_is); (case z9 => k_is)
    (case z10 => k_is); (case ca0 => k_is); (case pg0 => k_is); (case hd0 => k_is); (case po0 => k_is); (case sa0 => k_is)
    (case mk0 => k_is); (case kc0 => k_is); (case no0_0 => k_is); (case no0_1 => k_is); (case no0_2 => k_is); (case ma0_0 => k_is)
    (case mi0_0 => k_is); (case ml0_0 => k_is); (case mc0_0 => k_is); (case mk0_0 => k_is); (case ma0_1 => k_is); (case mi0_1 => k_is)
    (case ml0_1 => k_is); (case mc0_1 => k_is); (case mk0_1 => k_is); (case ma0_2 => k_is); (case mi0_2 => k_is); (case ml0_2 => k_is)
    (case mc0_2 => k_is); (case mk0_2 => k_is); (case ma0_3 => k_is); (case mi0_3 => k_is); (case ml0_3 => k_is); (case mc0_3 => k_is)
    (case mk0_3 => k_is); (case ma0_4 => k_is); (case mi0_4 => k_is); (case ml0_4 => k_is); (case mc0_4 => k_is); (case mk0_4 => k_is)
    (case ma0_5 => k_is); (case mi0_5 => k_is); (case ml0_5 => k_is); (case mc0_5 => k_is); (case mk0_5 => k_is); (case ca1 => k_is)
    (case pg1 => k_is); (case hd1 => k_is); (case po1 => k_is); (case sa1 => k_is); (case mk1 => k_is); (case kc1 => k_is)
    (case no1_0 => k_is); (case no1_1 => k_is); (case no1_2 => k_is); (case ma1_0 => k_is); (case mi1_0 => k_is); (case ml1_0 => k_is)
    (case mc1_0 => k_is); (case mk1_0 => k_is); (case ma1_1 => k_is); (case mi1_1 => k_is); (case ml1_1 => k_is); (case mc1_1 => k_is)
    (case mk1_1 => k_is); (case ma1_2 => k_is); (case mi1_2 => k_is); (case ml1_2 => k_is); (case mc1_2 => k_is); (case mk1_2 => k_is)
    (case ma1_3 => k_is); (case mi1_3 => k_is); (case ml1_3 => k_is); (case mc1_3 => k_is); (case mk1_3 => k_is); (case ma1_4 => k_is)
    (case mi1_4 => k_is); (case ml1_4 => k_is); (case mc1_4 => k_is); (case mk1_4 => k_is)

