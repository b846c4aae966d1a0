import PyProof.Rows.All
import Wide.All
import OpenK.AllK
import Wide.FinOn
import HandS.ForMost
import HandS.Wide
import HandS.IsInst
import HandS.More
import HandS.Deep
import HandS.TupMul
import HandS.TupAny
import HandS.Zip
import HandS.Sort
import HandS.Star
import HandS.ForExc
import HandS.ExcInit
import HandS.ExcField
import KE.KTupSum
import HandS.Gcd
import HandS.TryOnly
import HandS.SortRule
import HandS.Iter
import HandS.Conv
import HandS.Strs
import HandS.SetFor
import HandS.SetBool
import HandS.WordsExc
import KE.SortData
import HandS.Text
import HandS.StrMore
import HandS.RaiseMore
import KE.IntTextLaws
import PyProof.StrOps2
import PyProof.Rows.StrIntSpec
import KE.KxPercent
import HandS.FStr
import PyProof.FString3
import KE.GoesEnum
import KE.GoesZip
import HandS.HeadHook3
import PySem.Challenge.RW_truealmanac_k33_patterns
set_option Elab.async false
set_option linter.all false
set_option maxRecDepth 100000
namespace Rd
open PySem PySem.Spec PyProof.Rows L2
/-! ### what is kept: all but the object at d -/
def But (d : Addr) (H H' : Hp) : Prop := ∀ b o, b ≠ d → H b = some o → H' b = some o
theorem But.refl {d : Addr} {H : Hp} : But d H H := fun _ _ _ h => h
theorem But.trans {d : Addr} {H H1 H2 : Hp} (a : But d H H1) (b : But d H1 H2) : But d H H2 := fun c o n h => b c o n (a c o n h)
theorem But.of {d : Addr} {H H' : Hp} (s : Same H H') : But d H H' := fun b o _ h => s b o h
theorem But.put {d : Addr} {H : Hp} {o : HO} : But d H (upd H d o) := fun b u n h => by rw [upd_ne n]; exact h
theorem But.new {d p : Addr} {H : Hp} {o : HO} (h : H p = none) : But d H (upd H p o) := fun b u _ e => by rw [upd_ne (ne_of_none e h)]; exact e
theorem But.seqL {d : Addr} {K : PySem.W.Frag} {H H' : Hp} {a : Addr} {xs : List V} (n : a ≠ d) (e : But d H H') (h : SqL K H a xs) : SqL K H' a xs := by
  rcases h with (h | ⟨o, h⟩) | h
  · exact .inl (.inl (e _ _ n h))
  · exact .inl (.inr ⟨o, e _ _ n h⟩)
  · exact .inr h
theorem But.seqT {d : Addr} {K : PySem.W.Frag} {H H' : Hp} {a : Addr} {xs : List V} (n : a ≠ d) (e : But d H H') (h : SqT K H a xs) : SqT K H' a xs := by
  rcases h with (h | ⟨o, h⟩) | h
  · exact .inl (.inl (e _ _ n h))
  · exact .inl (.inr ⟨o, e _ _ n h⟩)
  · exact .inr h
theorem _root_.L2.Same.seqT {K : PySem.W.Frag} {H H' : Hp} {a : Addr} {xs : List V} (e : Same H H') (h : SqT K H a xs) : SqT K H' a xs := by
  rcases h with (h | ⟨o, h⟩) | h
  · exact .inl (.inl (e _ _ h))
  · exact .inl (.inr ⟨o, e _ _ h⟩)
  · exact .inr h
theorem Same.put {H : Hp} {p : Addr} {o : HO} (h : H p = none) : Same H (upd H p o) := fun b u e => by rw [upd_ne (ne_of_none e h)]; exact e
theorem keep {H : Hp} {a p : Addr} {o u : HO} (np : H p = none) (h : H a = some u) : (upd H p o) a = some u := by rw [upd_ne (ne_of_none h np)]; exact h
theorem keepN {H : Hp} {a p : Addr} {o u : HO} (np : a ≠ p) (h : H a = some u) : (upd H p o) a = some u := by rw [upd_ne np]; exact h
theorem free {H : Hp} {p D : Addr} {o : HO} (h : (upd H p o) D = none) : H D = none := by
  by_cases e : D = p
  · subst e
    rw [upd_same] at h
    cases h
  · rw [upd_ne e] at h
    exact h
theorem Same.mut {H H' : Hp} {D : Addr} {o : HO} (s : Same H H') (n : H D = none) : Same H (upd H' D o) := fun b u e => by rw [upd_ne (ne_of_none e n)]; exact s _ _ e
theorem But.mut {d : Addr} {H H' : Hp} {D : Addr} {o : HO} (s : But d H H') (n : H D = none) : But d H (upd H' D o) := fun b u k e => by rw [upd_ne (ne_of_none e n)]; exact s _ _ k e
theorem set_z {α : Type} {x y : α} {xs : List α} : (x :: xs).set 0 y = y :: xs := rfl
theorem set_s {α : Type} {x y : α} {n : Nat} {xs ys : List α} (h : xs.set n y = ys) : (x :: xs).set (n + 1) y = x :: ys := by rw [← h]; rfl
/-! ### steps of a reading -/
def BLK (x : V) (H : Hp) (QB : Bool → Hp → Prop) : Prop := ∃ k, x = .bl k ∧ QB k H
def INT (xs : List V) (H : Hp) (Q : VK) : Prop := (∃ i, xs = [.int i] ∧ Q (.int i) H) ∨ ∃ k, xs = [.bl k] ∧ Q (.int (if k then 1 else 0)) H
def ABS (xs : List V) (H : Hp) (Q : VK) : Prop := ∃ i, xs = [.int i] ∧ Q (.int (if i < 0 then -i else i)) H
def MIN2 (xs : List V) (H : Hp) (Q : VK) : Prop := ∃ i j, xs = [.int i, .int j] ∧ Q (.int (if j < i then j else i)) H
def MAX2 (xs : List V) (H : Hp) (Q : VK) : Prop := ∃ i j, xs = [.int i, .int j] ∧ Q (.int (if j > i then j else i)) H
def LEN (K : PySem.W.Frag) (xs : List V) (H : Hp) (Q : VK) : Prop := ∃ p ys, xs = [.ref p] ∧ (SqL K H p ys ∨ SqT K H p ys) ∧ Q (.int ys.length) H
def NEW (mk : List V → HO) (xs : List V) (H : Hp) (Q : VK) : Prop := xs.length ≤ sizeLine ∧ ∀ p, H p = none → Q (.ref p) (upd H p (mk xs))
def DG (x y : V) (H : Hp) (Q : VK) : Prop := ∃ a v, x = .ref a ∧ DGet H a y (some v) ∧ Q v H
def DP (x y v : V) (H : Hp) (N : Hp → Prop) : Prop := ∃ a H4, x = .ref a ∧ DPut H a y v H4 ∧ N H4
def CALL (sp : Sp) (vs : List V) (H : Hp) (Q : VK) (E : XK) : Prop := sp (vs ++ []) H Q E
def SLOT (nx : L2.St → Hp → Prop) (σ : L2.St) (H : Hp) : Prop := nx σ H
section
variable {K : PySem.W.Frag} {σ σ' : L2.St} {H H' : Hp} {Q : VK} {QB : Bool → Hp → Prop} {QA : List V → Hp → Prop} {ta tb te tc : TE} {t u : TT} {tr : TA} {i j : Int} {v x y : V} {nx bk ct : L2.St → Hp → Prop} {rt : VK} {s1 s2 : TS} {b : Bool}
theorem start {t : TS} {D : Ends} {σ σ' : L2.St} (e : σ = σ') (q : t D σ' H) : t D σ H := by rw [e]; exact q
theorem var {i : Nat} (h : σ[i]? = some (some v)) (q : Q v H) : tVar i σ H Q := ⟨v, h, q⟩
theorem cst (q : Q v H) : tC v σ H Q := q
theorem op {r : R2} (q : ta σ H fun x H1 => tb σ H1 fun y H2 => r x y H2 Q) : tOp r ta tb σ H Q := q
theorem un {r : V → Hp → VK → Prop} (q : ta σ H fun x H1 => r x H1 Q) : tUn r ta σ H Q := q
theorem i0 {g : Int → Int → V} (q : Q (g i j) H) : rI0 g (.int i) (.int j) H Q := ⟨i, j, rfl, rfl, q⟩
theorem i1 {C : Int → Int → Prop} {g : Int → Int → V} (c : C i j) (q : Q (g i j) H) : rI C g (.int i) (.int j) H Q := ⟨i, j, rfl, rfl, c, q⟩
theorem u1 {g : Int → V} (q : Q (g i) H) : rU g (.int i) H Q := ⟨i, rfl, q⟩
theorem eqI (q : Q (.bl (decide (i = j))) H) : rEq (.int i) (.int j) H Q := ⟨rfl, by
  have e : decide (V.int i = V.int j) = decide (i = j) := by
    by_cases h : i = j
    · rw [decide_eq_true h, decide_eq_true (congrArg V.int h)]
    · rw [decide_eq_false h, decide_eq_false (fun z => h (V.int.inj z))]
  rw [e]; exact q⟩
theorem neI (q : Q (.bl (!decide (i = j))) H) : rNe (.int i) (.int j) H Q := ⟨rfl, by
  have e : decide (V.int i = V.int j) = decide (i = j) := by
    by_cases h : i = j
    · rw [decide_eq_true h, decide_eq_true (congrArg V.int h)]
    · rw [decide_eq_false h, decide_eq_false (fun z => h (V.int.inj z))]
  rw [e]; exact q⟩
theorem eqB {a b : Bool} (q : Q (.bl (decide (a = b))) H) : rEq (.bl a) (.bl b) H Q := ⟨rfl, by
  have e : decide (V.bl a = V.bl b) = decide (a = b) := by
    by_cases h : a = b
    · rw [decide_eq_true h, decide_eq_true (congrArg V.bl h)]
    · rw [decide_eq_false h, decide_eq_false (fun z => h (V.bl.inj z))]
  rw [e]; exact q⟩
theorem eqS {a b : Str} (q : Q (.bl (decide (a = b))) H) : rEq (.str a) (.str b) H Q := ⟨rfl, by
  have e : decide (V.str a = V.str b) = decide (a = b) := by
    by_cases h : a = b
    · rw [decide_eq_true h, decide_eq_true (congrArg V.str h)]
    · rw [decide_eq_false h, decide_eq_false (fun z => h (V.str.inj z))]
  rw [e]; exact q⟩
theorem neS {a b : Str} (q : Q (.bl (!decide (a = b))) H) : rNe (.str a) (.str b) H Q := ⟨rfl, by
  have e : decide (V.str a = V.str b) = decide (a = b) := by
    by_cases h : a = b
    · rw [decide_eq_true h, decide_eq_true (congrArg V.str h)]
    · rw [decide_eq_false h, decide_eq_false (fun z => h (V.str.inj z))]
  rw [e]; exact q⟩
theorem tst (q : te σ H fun x H' => BLK x H' QB) : tTest te σ H QB := q
theorem tB (q : te σ H fun x H' => BLK x H' QB) : L2.tB te σ H QB := q
theorem blk (q : QB b H) : BLK (V.bl b) H QB := ⟨b, rfl, q⟩
theorem tnot (q : t σ H fun c H1 => QB (!c) H1) : tNot t σ H QB := q
theorem tand (q : t σ H fun c H1 => if c = true then u σ H1 QB else QB false H1) : tAnd t u σ H QB := q
theorem tor (q : t σ H fun c H1 => if c = true then QB true H1 else u σ H1 QB) : tOr t u σ H QB := q
theorem andV (q : ta σ H fun x H1 => BLK x H1 fun c H1 => if c = true then tb σ H1 Q else Q (.bl false) H1) : tAndV ta tb σ H Q := q
theorem orV (q : ta σ H fun x H1 => BLK x H1 fun c H1 => if c = true then Q (.bl true) H1 else tb σ H1 Q) : tOrV ta tb σ H Q := q
theorem notV (q : ta σ H fun x H1 => BLK x H1 fun c H1 => Q (.bl (!c)) H1) : tNotV ta σ H Q := q
theorem ifE (q : t σ H fun c H1 => if c = true then ta σ H1 Q else tb σ H1 Q) : tIf t ta tb σ H Q := q
theorem chain {r r' : R2} (q : ta σ H fun x H1 => tb σ H1 fun y H2 => r x y H2 fun z H3 => BLK z H3 fun k H3 => if k = true then tc σ H3 fun w' H4 => r' y w' H4 Q else Q (.bl false) H3) : tChain r r' ta tb tc σ H Q := q
theorem ite {c A B : Prop} [Decidable c] (h1 : c → A) (h2 : ¬ c → B) : if decide c = true then A else B := by
  by_cases h : c
  · rw [decide_eq_true h, if_pos rfl]; exact h1 h
  · rw [decide_eq_false h, if_neg Bool.false_ne_true]; exact h2 h
theorem iteN {c A B : Prop} [Decidable c] (h1 : c → B) (h2 : ¬ c → A) : if (!decide c) = true then A else B := by
  by_cases h : c
  · rw [decide_eq_true h]; exact iteF (h1 h)
  · rw [decide_eq_false h]; exact iteT (h2 h)
theorem iteP {c A B : Prop} [Decidable c] (h : c) (q : A) : if decide c = true then A else B := by rw [decide_eq_true h]; exact iteT q
theorem iteM {c A B : Prop} [Decidable c] (h : ¬ c) (q : B) : if decide c = true then A else B := by rw [decide_eq_false h]; exact iteF q
theorem iteNP {c A B : Prop} [Decidable c] (h : c) (q : B) : if (!decide c) = true then A else B := by rw [decide_eq_true h]; exact iteF q
theorem iteNM {c A B : Prop} [Decidable c] (h : ¬ c) (q : A) : if (!decide c) = true then A else B := by rw [decide_eq_false h]; exact iteT q
theorem iteNt {A B : Prop} (q : B) : if (!true) = true then A else B := q
theorem iteNf {A B : Prop} (q : A) : if (!false) = true then A else B := iteT q
theorem anil (q : QA [] H) : tNil σ H QA := q
theorem acons (q : te σ H fun x H1 => tr σ H1 fun xs H2 => QA (x :: xs) H2) : tCons te tr σ H QA := q
theorem cb {r : List V → Hp → VK → Prop} (q : tr σ H fun vs H1 => r vs H1 Q) : tCB r tr σ H Q := q
theorem call {sp : Sp} {E : XK} (q : tr σ H fun vs H1 => CALL sp vs H1 Q E) : tCall sp [] E tr σ H Q := q
theorem cbInt (q : tr σ H fun vs H1 => INT vs H1 Q) : tCB (fun xs H Q => (∃ i, xs = [.int i] ∧ Q (.int i) H) ∨ ∃ k, xs = [.bl k] ∧ Q (.int (if k then 1 else 0)) H) tr σ H Q := q
theorem int1 (q : Q (.int i) H) : INT [V.int i] H Q := .inl ⟨i, rfl, q⟩
theorem cbAbs (q : tr σ H fun vs H1 => ABS vs H1 Q) : tCB (fun xs H Q => ∃ i, xs = [.int i] ∧ Q (.int (if i < 0 then -i else i)) H) tr σ H Q := q
theorem abs1 (q : Q (.int (if i < 0 then -i else i)) H) : ABS [V.int i] H Q := ⟨i, rfl, q⟩
theorem cbMin (q : tr σ H fun vs H1 => MIN2 vs H1 Q) : tCB (fun xs H Q => ∃ i j, xs = [.int i, .int j] ∧ Q (.int (if j < i then j else i)) H) tr σ H Q := q
theorem min2 (q : Q (.int (if j < i then j else i)) H) : MIN2 [V.int i, V.int j] H Q := ⟨i, j, rfl, q⟩
theorem cbMax (q : tr σ H fun vs H1 => MAX2 vs H1 Q) : tCB (fun xs H Q => ∃ i j, xs = [.int i, .int j] ∧ Q (.int (if j > i then j else i)) H) tr σ H Q := q
theorem max2 (q : Q (.int (if j > i then j else i)) H) : MAX2 [V.int i, V.int j] H Q := ⟨i, j, rfl, q⟩
theorem cbLen (q : tr σ H fun vs H1 => LEN K vs H1 Q) : tCB (fun xs H Q => ∃ p ys, xs = [.ref p] ∧ (SqL K H p ys ∨ SqT K H p ys) ∧ Q (.int ys.length) H) tr σ H Q := q
theorem lenL {a : Addr} {xs : List V} (h : SqL K H a xs) (q : Q (.int xs.length) H) : LEN K [V.ref a] H Q := ⟨a, xs, rfl, .inl h, q⟩
theorem lenT {a : Addr} {xs : List V} (h : SqT K H a xs) (q : Q (.int xs.length) H) : LEN K [V.ref a] H Q := ⟨a, xs, rfl, .inr h, q⟩
theorem ixL {a : Addr} {xs : List V} (h : SqL K H a xs) (e : atI xs i = some v) (q : Q v H) : rIxL K (.ref a) (.int i) H Q := ⟨a, xs, i, v, rfl, rfl, h, e, q⟩
theorem ixT {a : Addr} {xs : List V} (h : SqT K H a xs) (e : atI xs i = some v) (q : Q v H) : rIxT K (.ref a) (.int i) H Q := ⟨a, xs, i, v, rfl, rfl, h, e, q⟩
theorem lst (q : tr σ H fun xs H1 => NEW HO.lst xs H1 Q) : tLst tr σ H Q := q
theorem tup (q : tr σ H fun xs H1 => NEW HO.tup xs H1 Q) : tTup tr σ H Q := q
theorem new {mk : List V → HO} {xs : List V} (h : xs.length ≤ 1000) (q : ∀ p, H p = none → Q (.ref p) (upd H p (mk xs))) : NEW mk xs H Q := ⟨Nat.le_of_lt (small1000 h), q⟩
theorem dget {td ty : TE} (q : td σ H fun x H1 => ty σ H1 fun y H2 => DG x y H2 Q) : tDGet td ty σ H Q := q
theorem dgetS {a : Addr} {kvs : List (Key × V)} {z : Str} (h : H a = some (.dK kvs)) (hv : valV kvs (Sum.inr z : Key) = some v) (q : Q v H) : DG (.ref a) (.str z) H Q :=
  ⟨a, v, rfl, by rw [← hv]; exact DGet.k (k := Sum.inr z) h, q⟩
theorem cmulL (h : -18446744073709551616 < i) (h2 : i < 18446744073709551616) : CMul i j := .inl ⟨by omega, by omega⟩
theorem cmulR (h : -18446744073709551616 < j) (h2 : j < 18446744073709551616) : CMul i j := .inr ⟨by omega, by omega⟩
theorem cpow (h : 0 ≤ j) (h2 : j ≤ 1000000) (h3 : i.natAbs < 18446744073709551616) : CPow i j := ⟨h, h2, by omega⟩
theorem cdiv (h : 0 < j) (h2 : j < 18446744073709551616) : CDivW i j := wide_div (b := 64) h (by omega) (by decide) (by decide)
/-! statements -/
theorem seq (q : s1 ⟨s2 ⟨nx, rt, bk, ct⟩, rt, bk, ct⟩ σ H) : tSeq s1 s2 ⟨nx, rt, bk, ct⟩ σ H := q
theorem nxt (q : nx σ H) : tNext ⟨nx, rt, bk, ct⟩ σ H := q
theorem asg {i : Nat} (q : te σ H fun x H1 => SLOT nx (σ.set i (some x)) H1) : tAsg te (gName i) ⟨nx, rt, bk, ct⟩ σ H := q
theorem slot {σ' : L2.St} (e : σ = σ') (q : nx σ' H) : SLOT nx σ H := by rw [e]; exact q
theorem slot0 {z y : Option V} {r : L2.St} (q : nx (y :: r) H) : SLOT nx (List.set (z :: r) 0 y) H := q
theorem slot1 {x0 z y : Option V} {r : L2.St} (q : nx (x0 :: y :: r) H) : SLOT nx (List.set (x0 :: z :: r) 1 y) H := q
theorem slot2 {x0 x1 z y : Option V} {r : L2.St} (q : nx (x0 :: x1 :: y :: r) H) : SLOT nx (List.set (x0 :: x1 :: z :: r) 2 y) H := q
theorem slot3 {x0 x1 x2 z y : Option V} {r : L2.St} (q : nx (x0 :: x1 :: x2 :: y :: r) H) : SLOT nx (List.set (x0 :: x1 :: x2 :: z :: r) 3 y) H := q
theorem slot4 {x0 x1 x2 x3 z y : Option V} {r : L2.St} (q : nx (x0 :: x1 :: x2 :: x3 :: y :: r) H) : SLOT nx (List.set (x0 :: x1 :: x2 :: x3 :: z :: r) 4 y) H := q
theorem slot5 {x0 x1 x2 x3 x4 z y : Option V} {r : L2.St} (q : nx (x0 :: x1 :: x2 :: x3 :: x4 :: y :: r) H) : SLOT nx (List.set (x0 :: x1 :: x2 :: x3 :: x4 :: z :: r) 5 y) H := q
theorem slot6 {x0 x1 x2 x3 x4 x5 z y : Option V} {r : L2.St} (q : nx (x0 :: x1 :: x2 :: x3 :: x4 :: x5 :: y :: r) H) : SLOT nx (List.set (x0 :: x1 :: x2 :: x3 :: x4 :: x5 :: z :: r) 6 y) H := q
theorem slot7 {x0 x1 x2 x3 x4 x5 x6 z y : Option V} {r : L2.St} (q : nx (x0 :: x1 :: x2 :: x3 :: x4 :: x5 :: x6 :: y :: r) H) : SLOT nx (List.set (x0 :: x1 :: x2 :: x3 :: x4 :: x5 :: x6 :: z :: r) 7 y) H := q
theorem slot8 {x0 x1 x2 x3 x4 x5 x6 x7 z y : Option V} {r : L2.St} (q : nx (x0 :: x1 :: x2 :: x3 :: x4 :: x5 :: x6 :: x7 :: y :: r) H) : SLOT nx (List.set (x0 :: x1 :: x2 :: x3 :: x4 :: x5 :: x6 :: x7 :: z :: r) 8 y) H := q
theorem slot9 {x0 x1 x2 x3 x4 x5 x6 x7 x8 z y : Option V} {r : L2.St} (q : nx (x0 :: x1 :: x2 :: x3 :: x4 :: x5 :: x6 :: x7 :: x8 :: y :: r) H) : SLOT nx (List.set (x0 :: x1 :: x2 :: x3 :: x4 :: x5 :: x6 :: x7 :: x8 :: z :: r) 9 y) H := q
theorem slot10 {x0 x1 x2 x3 x4 x5 x6 x7 x8 x9 z y : Option V} {r : L2.St} (q : nx (x0 :: x1 :: x2 :: x3 :: x4 :: x5 :: x6 :: x7 :: x8 :: x9 :: y :: r) H) : SLOT nx (List.set (x0 :: x1 :: x2 :: x3 :: x4 :: x5 :: x6 :: x7 :: x8 :: x9 :: z :: r) 10 y) H := q
theorem slot11 {x0 x1 x2 x3 x4 x5 x6 x7 x8 x9 x10 z y : Option V} {r : L2.St} (q : nx (x0 :: x1 :: x2 :: x3 :: x4 :: x5 :: x6 :: x7 :: x8 :: x9 :: x10 :: y :: r) H) : SLOT nx (List.set (x0 :: x1 :: x2 :: x3 :: x4 :: x5 :: x6 :: x7 :: x8 :: x9 :: x10 :: z :: r) 11 y) H := q
theorem slot12 {x0 x1 x2 x3 x4 x5 x6 x7 x8 x9 x10 x11 z y : Option V} {r : L2.St} (q : nx (x0 :: x1 :: x2 :: x3 :: x4 :: x5 :: x6 :: x7 :: x8 :: x9 :: x10 :: x11 :: y :: r) H) : SLOT nx (List.set (x0 :: x1 :: x2 :: x3 :: x4 :: x5 :: x6 :: x7 :: x8 :: x9 :: x10 :: x11 :: z :: r) 12 y) H := q
theorem slot13 {x0 x1 x2 x3 x4 x5 x6 x7 x8 x9 x10 x11 x12 z y : Option V} {r : L2.St} (q : nx (x0 :: x1 :: x2 :: x3 :: x4 :: x5 :: x6 :: x7 :: x8 :: x9 :: x10 :: x11 :: x12 :: y :: r) H) : SLOT nx (List.set (x0 :: x1 :: x2 :: x3 :: x4 :: x5 :: x6 :: x7 :: x8 :: x9 :: x10 :: x11 :: x12 :: z :: r) 13 y) H := q
theorem slot14 {x0 x1 x2 x3 x4 x5 x6 x7 x8 x9 x10 x11 x12 x13 z y : Option V} {r : L2.St} (q : nx (x0 :: x1 :: x2 :: x3 :: x4 :: x5 :: x6 :: x7 :: x8 :: x9 :: x10 :: x11 :: x12 :: x13 :: y :: r) H) : SLOT nx (List.set (x0 :: x1 :: x2 :: x3 :: x4 :: x5 :: x6 :: x7 :: x8 :: x9 :: x10 :: x11 :: x12 :: x13 :: z :: r) 14 y) H := q
theorem slot15 {x0 x1 x2 x3 x4 x5 x6 x7 x8 x9 x10 x11 x12 x13 x14 z y : Option V} {r : L2.St} (q : nx (x0 :: x1 :: x2 :: x3 :: x4 :: x5 :: x6 :: x7 :: x8 :: x9 :: x10 :: x11 :: x12 :: x13 :: x14 :: y :: r) H) : SLOT nx (List.set (x0 :: x1 :: x2 :: x3 :: x4 :: x5 :: x6 :: x7 :: x8 :: x9 :: x10 :: x11 :: x12 :: x13 :: x14 :: z :: r) 15 y) H := q
theorem slot16 {x0 x1 x2 x3 x4 x5 x6 x7 x8 x9 x10 x11 x12 x13 x14 x15 z y : Option V} {r : L2.St} (q : nx (x0 :: x1 :: x2 :: x3 :: x4 :: x5 :: x6 :: x7 :: x8 :: x9 :: x10 :: x11 :: x12 :: x13 :: x14 :: x15 :: y :: r) H) : SLOT nx (List.set (x0 :: x1 :: x2 :: x3 :: x4 :: x5 :: x6 :: x7 :: x8 :: x9 :: x10 :: x11 :: x12 :: x13 :: x14 :: x15 :: z :: r) 16 y) H := q
theorem slot17 {x0 x1 x2 x3 x4 x5 x6 x7 x8 x9 x10 x11 x12 x13 x14 x15 x16 z y : Option V} {r : L2.St} (q : nx (x0 :: x1 :: x2 :: x3 :: x4 :: x5 :: x6 :: x7 :: x8 :: x9 :: x10 :: x11 :: x12 :: x13 :: x14 :: x15 :: x16 :: y :: r) H) : SLOT nx (List.set (x0 :: x1 :: x2 :: x3 :: x4 :: x5 :: x6 :: x7 :: x8 :: x9 :: x10 :: x11 :: x12 :: x13 :: x14 :: x15 :: x16 :: z :: r) 17 y) H := q
theorem slot18 {x0 x1 x2 x3 x4 x5 x6 x7 x8 x9 x10 x11 x12 x13 x14 x15 x16 x17 z y : Option V} {r : L2.St} (q : nx (x0 :: x1 :: x2 :: x3 :: x4 :: x5 :: x6 :: x7 :: x8 :: x9 :: x10 :: x11 :: x12 :: x13 :: x14 :: x15 :: x16 :: x17 :: y :: r) H) : SLOT nx (List.set (x0 :: x1 :: x2 :: x3 :: x4 :: x5 :: x6 :: x7 :: x8 :: x9 :: x10 :: x11 :: x12 :: x13 :: x14 :: x15 :: x16 :: x17 :: z :: r) 18 y) H := q
theorem slot19 {x0 x1 x2 x3 x4 x5 x6 x7 x8 x9 x10 x11 x12 x13 x14 x15 x16 x17 x18 z y : Option V} {r : L2.St} (q : nx (x0 :: x1 :: x2 :: x3 :: x4 :: x5 :: x6 :: x7 :: x8 :: x9 :: x10 :: x11 :: x12 :: x13 :: x14 :: x15 :: x16 :: x17 :: x18 :: y :: r) H) : SLOT nx (List.set (x0 :: x1 :: x2 :: x3 :: x4 :: x5 :: x6 :: x7 :: x8 :: x9 :: x10 :: x11 :: x12 :: x13 :: x14 :: x15 :: x16 :: x17 :: x18 :: z :: r) 19 y) H := q
theorem slot20 {x0 x1 x2 x3 x4 x5 x6 x7 x8 x9 x10 x11 x12 x13 x14 x15 x16 x17 x18 x19 z y : Option V} {r : L2.St} (q : nx (x0 :: x1 :: x2 :: x3 :: x4 :: x5 :: x6 :: x7 :: x8 :: x9 :: x10 :: x11 :: x12 :: x13 :: x14 :: x15 :: x16 :: x17 :: x18 :: x19 :: y :: r) H) : SLOT nx (List.set (x0 :: x1 :: x2 :: x3 :: x4 :: x5 :: x6 :: x7 :: x8 :: x9 :: x10 :: x11 :: x12 :: x13 :: x14 :: x15 :: x16 :: x17 :: x18 :: x19 :: z :: r) 20 y) H := q
theorem slot21 {x0 x1 x2 x3 x4 x5 x6 x7 x8 x9 x10 x11 x12 x13 x14 x15 x16 x17 x18 x19 x20 z y : Option V} {r : L2.St} (q : nx (x0 :: x1 :: x2 :: x3 :: x4 :: x5 :: x6 :: x7 :: x8 :: x9 :: x10 :: x11 :: x12 :: x13 :: x14 :: x15 :: x16 :: x17 :: x18 :: x19 :: x20 :: y :: r) H) : SLOT nx (List.set (x0 :: x1 :: x2 :: x3 :: x4 :: x5 :: x6 :: x7 :: x8 :: x9 :: x10 :: x11 :: x12 :: x13 :: x14 :: x15 :: x16 :: x17 :: x18 :: x19 :: x20 :: z :: r) 21 y) H := q
theorem slot22 {x0 x1 x2 x3 x4 x5 x6 x7 x8 x9 x10 x11 x12 x13 x14 x15 x16 x17 x18 x19 x20 x21 z y : Option V} {r : L2.St} (q : nx (x0 :: x1 :: x2 :: x3 :: x4 :: x5 :: x6 :: x7 :: x8 :: x9 :: x10 :: x11 :: x12 :: x13 :: x14 :: x15 :: x16 :: x17 :: x18 :: x19 :: x20 :: x21 :: y :: r) H) : SLOT nx (List.set (x0 :: x1 :: x2 :: x3 :: x4 :: x5 :: x6 :: x7 :: x8 :: x9 :: x10 :: x11 :: x12 :: x13 :: x14 :: x15 :: x16 :: x17 :: x18 :: x19 :: x20 :: x21 :: z :: r) 22 y) H := q
theorem slot23 {x0 x1 x2 x3 x4 x5 x6 x7 x8 x9 x10 x11 x12 x13 x14 x15 x16 x17 x18 x19 x20 x21 x22 z y : Option V} {r : L2.St} (q : nx (x0 :: x1 :: x2 :: x3 :: x4 :: x5 :: x6 :: x7 :: x8 :: x9 :: x10 :: x11 :: x12 :: x13 :: x14 :: x15 :: x16 :: x17 :: x18 :: x19 :: x20 :: x21 :: x22 :: y :: r) H) : SLOT nx (List.set (x0 :: x1 :: x2 :: x3 :: x4 :: x5 :: x6 :: x7 :: x8 :: x9 :: x10 :: x11 :: x12 :: x13 :: x14 :: x15 :: x16 :: x17 :: x18 :: x19 :: x20 :: x21 :: x22 :: z :: r) 23 y) H := q
theorem ret (q : te σ H rt) : tRet te ⟨nx, rt, bk, ct⟩ σ H := q
theorem retN (q : rt .non H) : tRetN ⟨nx, rt, bk, ct⟩ σ H := q
theorem ifS (q : t σ H fun b H1 => if b = true then s1 ⟨nx, rt, bk, ct⟩ σ H1 else s2 ⟨nx, rt, bk, ct⟩ σ H1) : tIfS t s1 s2 ⟨nx, rt, bk, ct⟩ σ H := q
theorem drop (q : te σ H fun _ H1 => nx σ H1) : tDrop te ⟨nx, rt, bk, ct⟩ σ H := q
theorem brk (q : bk σ H) : tBreak ⟨nx, rt, bk, ct⟩ σ H := q
theorem cnt (q : ct σ H) : tCont ⟨nx, rt, bk, ct⟩ σ H := q
theorem dput {td ty tv : TE} (q : tv σ H fun v H1 => td σ H1 fun x H2 => ty σ H2 fun y H3 => DP x y v H3 (nx σ)) : sDPut td ty tv ⟨nx, rt, bk, ct⟩ σ H := q
theorem dputS {a : Addr} {kvs kvs' : List (Key × V)} {z : Str} (h : H a = some (.dK kvs)) (hl : kvs.length ≤ 1000) (e : putK kvs (Sum.inr z : Key) v = kvs') {N : Hp → Prop} (q : N (upd H a (.dK kvs'))) : DP (V.ref a) (.str z) v H N :=
  ⟨a, _, rfl, by rw [← e]; exact DPut.k (k := Sum.inr z) h (small1000 hl), q⟩
/-! displays, comprehensions, loops -/
def DISP (p : Addr) (ps : List (V × V)) (H : Hp) (Q : VK) : Prop := H p = some (.dK []) ∧ ∃ kvs : List (Key × V), ps = kvs.map (fun kv => (kV kv.1, kv.2)) ∧ kvs.length ≤ 15 ∧ Q (.ref p) (upd H p (.dK (mergeK [] kvs)))
theorem disp {trs : List (TE × TE)} (q : ∀ p, H p = none → tPairs trs σ (upd H p (.dK [])) fun ps H2 => DISP p ps H2 Q) : tDisp trs σ H Q := q
theorem pnil {QP : List (V × V) → Hp → Prop} (q : QP [] H) : tPairs [] σ H QP := q
theorem pcons {tk tv : TE} {r : List (TE × TE)} {QP : List (V × V) → Hp → Prop} (q : tk σ H fun x H1 => tv σ H1 fun y H2 => tPairs r σ H2 fun ps H3 => QP ((x, y) :: ps) H3) : tPairs ((tk, tv) :: r) σ H QP := q
theorem dispK {p : Addr} {ps : List (V × V)} (kvs : List (Key × V)) (h : H p = some (.dK [])) (e : ps = kvs.map (fun kv => (kV kv.1, kv.2))) (hl : kvs.length ≤ 15) (q : Q (.ref p) (upd H p (.dK (mergeK [] kvs)))) : DISP p ps H Q := ⟨h, kvs, e, hl, q⟩
def LCL (K : PySem.W.Frag) (g : TG) (tt : TT) (te : TE) (vs : List Nat) (σ : L2.St) (x : V) (H : Hp) (Q : VK) : Prop := tLc (iList K (tC x)) g tt te vs σ H Q
def LCT (K : PySem.W.Frag) (g : TG) (tt : TT) (te : TE) (vs : List Nat) (σ : L2.St) (x : V) (H : Hp) (Q : VK) : Prop := tLc (iTup K (tC x)) g tt te vs σ H Q
def LCN (D : Addr) (N : Hp → Prop) (y : V) (H : Hp) : Prop := ∃ acc, H D = some (.lst acc) ∧ acc.length < sizeLine ∧ N (upd H D (.lst (acc ++ [y])))
def WIP (a b : L2.St) (N : Prop) : Prop := a = b ∧ N
theorem lcl {tl : TE} {g : TG} {vs : List Nat} (q : tl σ H fun x H1 => LCL K g t te vs σ x H1 Q) : tLc (iList K tl) g t te vs σ H Q := q
theorem lct {tl : TE} {g : TG} {vs : List Nat} (q : tl σ H fun x H1 => LCT K g t te vs σ x H1 Q) : tLc (iTup K tl) g t te vs σ H Q := q
theorem lclGo {a : Addr} {xs : List V} {g : TG} {vs : List Nat} {σ0 : L2.St} (e0 : wipe σ vs = σ0) (hS : SqL K H a xs) (Pv : Addr → Nat → Hp → Prop) (h0 : ∀ D, H D = none → Pv D 0 (upd H D (.lst []))) (hl : ∀ D i H', i ≤ xs.length → Pv D i H' → SqL K H' a xs)
    (hs : ∀ D i x H', xs[i]? = some x → Pv D i H' → g x σ0 H' fun σ2 H2 => WIP (wipe σ2 vs) σ0 (t σ2 H2 fun b H3 => if b = true then te σ2 H3 fun y H4 => LCN D (Pv D (i + 1)) y H4 else Pv D (i + 1) H3))
    (hd : ∀ D H', H D = none → Pv D xs.length H' → Q (.ref D) H') : LCL K g t te vs σ (.ref a) H Q := by
  subst e0
  exact ⟨a, rfl, ⟨xs, hS⟩, fun D nD => lc_list (Pv D) (h0 D nD) (hl D) (hs D) (fun H' => hd D H' nD)⟩
theorem lctGo {a : Addr} {xs : List V} {g : TG} {vs : List Nat} {σ0 : L2.St} (e0 : wipe σ vs = σ0) (hS : SqT K H a xs) (Pv : Addr → Nat → Hp → Prop) (h0 : ∀ D, H D = none → Pv D 0 (upd H D (.lst []))) (hl : ∀ D i H', i ≤ xs.length → Pv D i H' → SqT K H' a xs)
    (hs : ∀ D i x H', xs[i]? = some x → Pv D i H' → g x σ0 H' fun σ2 H2 => WIP (wipe σ2 vs) σ0 (t σ2 H2 fun b H3 => if b = true then te σ2 H3 fun y H4 => LCN D (Pv D (i + 1)) y H4 else Pv D (i + 1) H3))
    (hd : ∀ D H', H D = none → Pv D xs.length H' → Q (.ref D) H') : LCT K g t te vs σ (.ref a) H Q := by
  subst e0
  exact ⟨a, rfl, ⟨xs, hS⟩, fun D nD => lc_tup (Pv D) (h0 D nD) (hl D) (hs D) (fun H' => hd D H' nD)⟩
theorem lcn {D : Addr} {acc : List V} {N : Hp → Prop} (h : H D = some (.lst acc)) (hl : acc.length ≤ 1000) (q : N (upd H D (.lst (acc ++ [v])))) : LCN D N v H := ⟨acc, h, small1000 hl, q⟩
theorem wip {a b : L2.St} {N : Prop} (e : a = b) (q : N) : WIP a b N := ⟨e, q⟩
theorem gname {i : Nat} {N : L2.St → Hp → Prop} (q : SLOT N (σ.set i (some v)) H) : gName i v σ H N := q
theorem yes (q : QB true H) : tYes σ H QB := q
def FORL (K : PySem.W.Frag) (g : TG) (tb : TS) (D : Ends) (σ : L2.St) (x : V) (H : Hp) : Prop := tFor (iList K (tC x)) g tb D σ H
def FORT (K : PySem.W.Frag) (g : TG) (tb : TS) (D : Ends) (σ : L2.St) (x : V) (H : Hp) : Prop := tFor (iTup K (tC x)) g tb D σ H
def RNG1 (g : TG) (tb : TS) (D : Ends) (σ : L2.St) (vs : List V) (H : Hp) : Prop := tFor (iRng1 fun _ H Q => Q vs H) g tb D σ H
def RNG2 (g : TG) (tb : TS) (D : Ends) (σ : L2.St) (vs : List V) (H : Hp) : Prop := tFor (iRng2 fun _ H Q => Q vs H) g tb D σ H
theorem forl {tl : TE} {g : TG} {D : Ends} (q : tl σ H fun x H1 => FORL K g s1 D σ x H1) : tFor (iList K tl) g s1 D σ H := q
theorem fort {tl : TE} {g : TG} {D : Ends} (q : tl σ H fun x H1 => FORT K g s1 D σ x H1) : tFor (iTup K tl) g s1 D σ H := q
theorem forr {g : TG} {D : Ends} (q : tr σ H fun x H1 => RNG1 g s1 D σ x H1) : tFor (iRng1 tr) g s1 D σ H := q
theorem forr2 {g : TG} {D : Ends} (q : tr σ H fun x H1 => RNG2 g s1 D σ x H1) : tFor (iRng2 tr) g s1 D σ H := q
theorem forlGo {a : Addr} {xs : List V} {g : TG} (hS : SqL K H a xs) (Pv : Nat → L2.St → Hp → Prop) (h0 : Pv 0 σ H) (hl : ∀ i σ H, i ≤ xs.length → Pv i σ H → SqL K H a xs)
    (hs : ∀ i x σ H, xs[i]? = some x → Pv i σ H → g x σ H fun σ2 H2 => s1 ⟨Pv (i + 1), rt, nx, Pv (i + 1)⟩ σ2 H2) (hd : ∀ σ H, Pv xs.length σ H → nx σ H) : FORL K g s1 ⟨nx, rt, bk, ct⟩ σ (.ref a) H :=
  ⟨a, rfl, ⟨xs, hS⟩, for_list Pv h0 hl hs hd⟩
theorem fortGo {a : Addr} {xs : List V} {g : TG} (hS : SqT K H a xs) (Pv : Nat → L2.St → Hp → Prop) (h0 : Pv 0 σ H) (hl : ∀ i σ H, i ≤ xs.length → Pv i σ H → SqT K H a xs)
    (hs : ∀ i x σ H, xs[i]? = some x → Pv i σ H → g x σ H fun σ2 H2 => s1 ⟨Pv (i + 1), rt, nx, Pv (i + 1)⟩ σ2 H2) (hd : ∀ σ H, Pv xs.length σ H → nx σ H) : FORT K g s1 ⟨nx, rt, bk, ct⟩ σ (.ref a) H :=
  ⟨a, rfl, ⟨xs, hS⟩, for_tup Pv h0 hl hs hd⟩
theorem rngGo {n : Int} {g : TG} (hn : n < 4611686018427387904) (Pv : Nat → L2.St → Hp → Prop) (h0 : Pv 0 σ H)
    (hs : ∀ (i : Nat) σ H, (i : Int) < n → Pv i σ H → g (.int i) σ H fun σ2 H2 => s1 ⟨Pv (i + 1), rt, nx, Pv (i + 1)⟩ σ2 H2) (hd : ∀ σ H, Pv n.toNat σ H → nx σ H) (hn0 : -4611686018427387904 ≤ n) : RNG1 g s1 ⟨nx, rt, bk, ct⟩ σ [.int n] H :=
  ⟨n, rfl, by omega, by omega, for_range (lo := 0) (n := n.toNat) Pv h0 (fun i σ' H' hi p => by
    have e0 : (0 : Int) + (i : Int) = (i : Int) := Int.zero_add _
    rw [e0]
    exact hs i σ' H' (by omega) p) hd⟩
theorem rng2Go {lo n : Int} {g : TG} (hn : -4611686018427387904 ≤ lo ∧ lo < 4611686018427387904 ∧ -4611686018427387904 ≤ n ∧ n < 4611686018427387904) (Pv : Nat → L2.St → Hp → Prop) (h0 : Pv 0 σ H)
    (hs : ∀ (i : Nat) σ H, lo + (i : Int) < n → Pv i σ H → g (.int (lo + i)) σ H fun σ2 H2 => s1 ⟨Pv (i + 1), rt, nx, Pv (i + 1)⟩ σ2 H2) (hd : ∀ σ H, Pv (n - lo).toNat σ H → nx σ H) : RNG2 g s1 ⟨nx, rt, bk, ct⟩ σ [.int lo, .int n] H :=
  ⟨lo, n, rfl, ⟨by omega, by omega, by omega, by omega⟩, for_range (lo := lo) (n := (n - lo).toNat) Pv h0 (fun i σ' H' hi p => hs i σ' H' (by omega) p) hd⟩
theorem isi {x : V} {ty : Value} {n : String} {b : Bool} (h : TyX K H x ty) (e : PySem.W.kitOne K ty (.type n) = some b) (q : Q (.bl b) H) : rIsi K [x, .ty n] H Q := ⟨x, .ty n, ty, .type n, b, rfl, .ty n, h, e, q⟩
/-! tuples, slices, sums, comprehensions that change nothing -/
theorem at0 {α : Type} {x : α} {xs : List α} : atI (x :: xs) 0 = some x := atI_nat (j := 0) rfl
theorem at1 {α : Type} {x y : α} {xs : List α} : atI (x :: y :: xs) 1 = some y := atI_nat (j := 1) rfl
theorem at2 {α : Type} {x y z : α} {xs : List α} : atI (x :: y :: z :: xs) 2 = some z := atI_nat (j := 2) rfl
theorem at3 {α : Type} {x y z u : α} {xs : List α} : atI (x :: y :: z :: u :: xs) 3 = some u := atI_nat (j := 3) rfl
theorem at4 {α : Type} {x y z u v : α} {xs : List α} : atI (x :: y :: z :: u :: v :: xs) 4 = some v := atI_nat (j := 4) rfl
def PART (x : V) (H : Hp) (QO : Option Int → Hp → Prop) : Prop := ∃ i, x = .int i ∧ QO (some i) H
theorem sl {r : V → Option Int → Option Int → Hp → VK → Prop} {tl th : TO} (q : te σ H fun x H1 => tl σ H1 fun l H2 => th σ H2 fun u H3 => r x l u H3 Q) : tSl r te tl th σ H Q := q
theorem part {QO : Option Int → Hp → Prop} (q : te σ H fun x H1 => PART x H1 QO) : tPart te σ H QO := q
theorem part1 {QO : Option Int → Hp → Prop} (q : QO (some i) H) : PART (.int i) H QO := ⟨i, rfl, q⟩
theorem nopart {QO : Option Int → Hp → Prop} (q : QO none H) : tNoPart σ H QO := q
theorem cut1 (x : V) (xs : List V) : cutV (x :: xs) (some 1) none = xs := by
  unfold cutV
  rw [show HT.sIx (x :: xs).length 0 (some 1) = min 1 (x :: xs).length from HT.sIx_nat _ 0 1, HT.sIx_none, List.length_cons, show min 1 (xs.length + 1) = 1 by omega]
  show List.take (xs.length + 1 - 1) xs = xs
  rw [Nat.add_sub_cancel]
  exact List.take_length
theorem slT1 {a : Addr} {xs : List V} (hS : SqT K H a (x :: xs)) (q : ∀ p, H p = none → Q (.ref p) (upd H p (.tup xs))) : rSlT K (.ref a) (some 1) none H Q := by
  refine ⟨a, _, rfl, hS, ?_, ?_⟩
  · intro z
    have h1 := z.1
    rw [show HT.sIx (x :: xs).length 0 (some 1) = min 1 (x :: xs).length from HT.sIx_nat _ 0 1, List.length_cons] at h1
    omega
  · rw [cut1]
    exact q
theorem slL1 {a : Addr} {xs : List V} (hS : SqL K H a (x :: xs)) (q : ∀ p, H p = none → Q (.ref p) (upd H p (.lst xs))) : rSlL K (.ref a) (some 1) none H Q := by
  refine ⟨a, _, rfl, hS, ?_⟩
  rw [cut1]
  exact q
theorem sum1 {a : Addr} {ns : List Int} (hS : SqL K H a (ns.map V.int)) (q : Q (.int ns.sum) H) : rSum K [.ref a] H Q := ⟨a, ns, rfl, hS, q⟩
theorem any1 {a : Addr} {bs : List Bool} (hS : SqL K H a (bs.map V.bl)) (q : Q (.bl (bs.any id)) H) : rAny K [.ref a] H Q := ⟨a, bs, rfl, hS, q⟩
theorem all1 {a : Addr} {bs : List Bool} (hS : SqL K H a (bs.map V.bl)) (q : Q (.bl (bs.all id)) H) : rAll K [.ref a] H Q := ⟨a, bs, rfl, hS, q⟩
theorem catT {a c : Addr} {xs ys : List V} (ha : SqT K H a (x :: xs)) (hc : SqT K H c (y :: ys)) (hl : xs.length + ys.length ≤ 900) (q : ∀ p, H p = none → Q (.ref p) (upd H p (.tup (x :: xs ++ y :: ys)))) : rCatT K (.ref a) (.ref c) H Q :=
  ⟨a, c, _, _, rfl, rfl, ha, hc, List.cons_ne_nil _ _, Nat.le_of_lt (small1000 (by rw [List.length_cons, List.length_cons]; omega)), fun z => absurd z (List.cons_ne_nil _ _), fun _ => q⟩
def TUPO (K : PySem.W.Frag) (xs : List V) (H : Hp) (Q : VK) : Prop := ∃ p ys, xs = [.ref p] ∧ ((SqL K H p ys ∧ ∀ l, H l = none → Q (.ref l) (upd H l (.tup ys))) ∨ (SqT K H p ys ∧ Q (.ref p) H))
theorem cbTup (q : tr σ H fun vs H1 => TUPO K vs H1 Q) : tCB (fun xs H Q => ∃ p ys, xs = [.ref p] ∧ ((SqL K H p ys ∧ ∀ l, H l = none → Q (.ref l) (upd H l (.tup ys))) ∨ (SqT K H p ys ∧ Q (.ref p) H))) tr σ H Q := q
theorem tupL {a : Addr} {xs : List V} (h : SqL K H a xs) (q : ∀ l, H l = none → Q (.ref l) (upd H l (.tup xs))) : TUPO K [.ref a] H Q := ⟨a, xs, rfl, .inl ⟨h, q⟩⟩
def LSTO (K : PySem.W.Frag) (xs : List V) (H : Hp) (Q : VK) : Prop := ∃ p ys, xs = [.ref p] ∧ (SqL K H p ys ∨ SqT K H p ys) ∧ ∀ l, H l = none → Q (.ref l) (upd H l (.lst ys))
theorem cbLst (q : tr σ H fun vs H1 => LSTO K vs H1 Q) : tCB (fun xs H Q => ∃ p ys, xs = [.ref p] ∧ (SqL K H p ys ∨ SqT K H p ys) ∧ ∀ l, H l = none → Q (.ref l) (upd H l (.lst ys))) tr σ H Q := q
theorem lstT {a : Addr} {xs : List V} (h : SqT K H a xs) (q : ∀ l, H l = none → Q (.ref l) (upd H l (.lst xs))) : LSTO K [.ref a] H Q := ⟨a, xs, rfl, .inr h, q⟩
theorem lstL {a : Addr} {xs : List V} (h : SqL K H a xs) (q : ∀ l, H l = none → Q (.ref l) (upd H l (.lst xs))) : LSTO K [.ref a] H Q := ⟨a, xs, rfl, .inl h, q⟩
theorem inI_eq (k : Int) : ∀ ns : List Int, inV (.int k) (ns.map V.int) = decide (k ∈ ns)
  | [] => by simp [inV]
  | n :: r => by
    have ih := inI_eq k r
    unfold inV at ih ⊢
    rw [List.map_cons, List.any_cons, ih]
    show ((n == k) || decide (k ∈ r)) = decide (k ∈ n :: r)
    by_cases h : k = n
    · subst h
      simp
    · have h2 : ¬ n = k := fun z => h z.symm
      simp [h, h2]
theorem inI {a : Addr} {xs : List V} (ns : List Int) {k : Int} (h : SqL K H a xs) (e : xs = ns.map V.int) (q : Q (.bl (decide (k ∈ ns))) H) : rIn K false (.int k) (.ref a) H Q := by
  subst e
  refine ⟨a, _, rfl, .inl h, rfl, ?_, ?_⟩
  · rw [List.all_map]
    exact List.all_eq_true.mpr fun _ _ => rfl
  · show Q (.bl (inV (.int k) (ns.map V.int))) H
    rw [inI_eq]
    exact q
theorem lcmap {D : Addr} {ys : List V} {i : Nat} {y : V} {H0 H' : Hp} (hl : ys.length ≤ 1000) (nD : H0 D = none) (e : ys[i]? = some y) (hD : H' D = some (.lst (ys.take i))) (sm : Same H0 H') :
    LCN D (fun H2 => H2 D = some (.lst (ys.take (i + 1))) ∧ Same H0 H2) y H' := by
  refine lcn hD (by rw [List.length_take]; omega) ⟨?_, Same.mut sm nD⟩
  rw [upd_same, List.take_add_one, e]
  rfl
/-- [te for x in a tuple], which makes ys and changes nothing -/
theorem lctMap {a : Addr} {xs ys : List V} {g : TG} {vs : List Nat} {σ0 : L2.St} (e0 : wipe σ vs = σ0) (hS : SqT K H a xs) (hl : ys.length = xs.length) (h1000 : ys.length ≤ 1000)
    (hs : ∀ (i : Nat) x y H' (N : VK), xs[i]? = some x → ys[i]? = some y → Same H H' → (∀ H4, Same H' H4 → N y H4) → g x σ0 H' fun σ2 H2 => WIP (wipe σ2 vs) σ0 (te σ2 H2 N))
    (hd : ∀ D H', H D = none → H' D = some (.lst ys) → Same H H' → Q (.ref D) H') : LCT K g tYes te vs σ (.ref a) H Q := by
  refine lctGo e0 hS (fun D i H' => H D = none ∧ H' D = some (.lst (ys.take i)) ∧ Same H H') (fun D nD => ⟨nD, upd_same, Same.put nD⟩) (fun D i H' _ h => h.2.2.seqT hS) (fun D i x H' hx h => ?_) (fun D H' nD h => hd D H' nD (by rw [← hl, List.take_length] at h; exact h.2.1) h.2.2)
  obtain ⟨nD, hD, sm⟩ := h
  have hi : i < ys.length := by rw [hl]; exact (List.getElem?_eq_some_iff.mp hx).1
  refine hs i x ys[i] H' _ hx (List.getElem?_eq_getElem hi) sm fun H4 s4 => ?_
  show LCN D _ ys[i] H4
  obtain ⟨acc, a1, a2, a3⟩ := lcmap (D := D) h1000 nD (List.getElem?_eq_getElem hi) (s4 _ _ hD) (sm.trans s4)
  exact ⟨acc, a1, a2, nD, a3⟩
theorem lclMap {a : Addr} {xs ys : List V} {g : TG} {vs : List Nat} {σ0 : L2.St} (e0 : wipe σ vs = σ0) (hS : SqL K H a xs) (hl : ys.length = xs.length) (h1000 : ys.length ≤ 1000)
    (hs : ∀ (i : Nat) x y H' (N : VK), xs[i]? = some x → ys[i]? = some y → Same H H' → (∀ H4, Same H' H4 → N y H4) → g x σ0 H' fun σ2 H2 => WIP (wipe σ2 vs) σ0 (te σ2 H2 N))
    (hd : ∀ D H', H D = none → H' D = some (.lst ys) → Same H H' → Q (.ref D) H') : LCL K g tYes te vs σ (.ref a) H Q := by
  refine lclGo e0 hS (fun D i H' => H D = none ∧ H' D = some (.lst (ys.take i)) ∧ Same H H') (fun D nD => ⟨nD, upd_same, Same.put nD⟩) (fun D i H' _ h => h.2.2.seq hS) (fun D i x H' hx h => ?_) (fun D H' nD h => hd D H' nD (by rw [← hl, List.take_length] at h; exact h.2.1) h.2.2)
  obtain ⟨nD, hD, sm⟩ := h
  have hi : i < ys.length := by rw [hl]; exact (List.getElem?_eq_some_iff.mp hx).1
  refine hs i x ys[i] H' _ hx (List.getElem?_eq_getElem hi) sm fun H4 s4 => ?_
  show LCN D _ ys[i] H4
  obtain ⟨acc, a1, a2, a3⟩ := lcmap (D := D) h1000 nD (List.getElem?_eq_getElem hi) (s4 _ _ hD) (sm.trans s4)
  exact ⟨acc, a1, a2, nD, a3⟩
def LCR1 (g : TG) (tt : TT) (te : TE) (vs : List Nat) (σ : L2.St) (xs : List V) (H : Hp) (Q : VK) : Prop := tLc (iRng1 fun _ H Q => Q xs H) g tt te vs σ H Q
theorem lcr1 {g : TG} {vs : List Nat} (q : tr σ H fun xs H1 => LCR1 g t te vs σ xs H1 Q) : tLc (iRng1 tr) g t te vs σ H Q := q
theorem lcr1Go {n : Int} {g : TG} {vs : List Nat} {σ0 : L2.St} (e0 : wipe σ vs = σ0) (hn : n < 4611686018427387904) (hn0 : -4611686018427387904 ≤ n) (Pv : Addr → Nat → Hp → Prop) (h0 : ∀ D, H D = none → Pv D 0 (upd H D (.lst [])))
    (hs : ∀ D (i : Nat) H', (i : Int) < n → Pv D i H' → g (.int i) σ0 H' fun σ2 H2 => WIP (wipe σ2 vs) σ0 (t σ2 H2 fun b H3 => if b = true then te σ2 H3 fun y H4 => LCN D (Pv D (i + 1)) y H4 else Pv D (i + 1) H3))
    (hd : ∀ D H', H D = none → Pv D n.toNat H' → Q (.ref D) H') : LCR1 g t te vs σ [.int n] H Q := by
  subst e0
  exact ⟨n, rfl, by omega, by omega, fun D nD => lc_range (lo := 0) (n := n.toNat) (Pv D) (h0 D nD) (fun i H' hi p => by
    have e0 : (0 : Int) + (i : Int) = (i : Int) := Int.zero_add _
    rw [e0]
    exact hs D i H' (by omega) p) (fun H' => hd D H' nD)⟩
theorem never {P : Program} {w : World} {mg : Str → Option Value} {base : Heap} {k : Nat} {f : Addr} {fd : FuncData} {ps : List Str} : FnOk P w K mg base CX0 k f fd ps (fun _ _ _ _ => False) := ⟨fun _ _ _ _ h => h.elim, fun _ _ _ _ _ _ _ _ _ _ _ _ _ h => h.elim⟩
/-! unpacking -/
def GTUP (K : PySem.W.Frag) (n : Nat) (gs : TGs) (x : V) (σ : L2.St) (H : Hp) (N : L2.St → Hp → Prop) : Prop := gTup K n gs x σ H N
theorem asgT {n : Nat} {gs : TGs} (q : te σ H fun x H1 => GTUP K n gs x σ H1 nx) : tAsg te (gTup K n gs) ⟨nx, rt, bk, ct⟩ σ H := q
theorem gtup {a : Addr} {xs : List V} {n : Nat} {gs : TGs} {N : L2.St → Hp → Prop} (hS : SqT K H a xs) (hl : xs.length = n) (q : gs xs σ H N) : GTUP K n gs (.ref a) σ H N := ⟨a, xs, rfl, hS, hl, q⟩
theorem gcons {g : TG} {gs : TGs} {r : List V} {N : L2.St → Hp → Prop} (q : g v σ H fun σ' H' => gs r σ' H' N) : gCons g gs (v :: r) σ H N := ⟨v, r, rfl, q⟩
theorem gnil {N : L2.St → Hp → Prop} (q : N σ H) : gNil [] σ H N := ⟨rfl, q⟩
theorem gtupV {n : Nat} {gs : TGs} {N : L2.St → Hp → Prop} (q : GTUP K n gs v σ H N) : gTup K n gs v σ H N := q
/-! dicts with ints, stores, methods of lists -/
theorem dnew (q : ∀ p, H p = none → Q (.ref p) (upd H p (.dK []))) : tDNewK σ H Q := q
def DN (y x : V) (H : Hp) (Q : VK) : Prop := ∃ a o, x = .ref a ∧ DGet H a y o ∧ Q (.bl (!o.isSome)) H
theorem dnotin {ty td : TE} (q : ty σ H fun y H1 => td σ H1 fun x H2 => DN y x H2 Q) : tDNotIn ty td σ H Q := q
theorem dnI {a : Addr} {kvs : List (Key × V)} {n : Int} (h : H a = some (.dK kvs)) (q : Q (.bl (!(valV kvs (Sum.inl n : Key)).isSome)) H) : DN (.int n) (.ref a) H Q := ⟨a, _, rfl, DGet.k (k := Sum.inl n) h, q⟩
theorem dgetI {a : Addr} {kvs : List (Key × V)} {n : Int} (h : H a = some (.dK kvs)) (hv : valV kvs (Sum.inl n : Key) = some v) (q : Q v H) : DG (.ref a) (.int n) H Q :=
  ⟨a, v, rfl, by rw [← hv]; exact DGet.k (k := Sum.inl n) h, q⟩
theorem dputI {a : Addr} {kvs : List (Key × V)} {n : Int} (h : H a = some (.dK kvs)) (hl : kvs.length ≤ 1000) {N : Hp → Prop} (q : N (upd H a (.dK (putK kvs (Sum.inl n : Key) v)))) : DP (V.ref a) (.int n) v H N :=
  ⟨a, _, rfl, DPut.k (k := Sum.inl n) h (small1000 hl), q⟩
def SETL (o i v : V) (H : Hp) (N : Hp → Prop) : Prop := rSetL o i v H N
theorem asgS {to ti : TE} (q : te σ H fun v H1 => to σ H1 fun o H2 => ti σ H2 fun i H3 => SETL o i v H3 (nx σ)) : tAsg te (gSub to ti rSetL) ⟨nx, rt, bk, ct⟩ σ H := q
theorem setL {a : Addr} {xs : List V} {k : Nat} {N : Hp → Prop} (h : H a = some (.lst xs)) (e : ixN xs.length i = some k) (q : N (upd H a (.lst (xs.set k v)))) : SETL (.ref a) (.int i) v H N := ⟨a, xs, i, k, rfl, rfl, h, e, q⟩
def BM (K : PySem.W.Frag) (T : String) (x : V) (H : Hp) (N : Prop) : Prop := tyV K T x H ∧ N
theorem bm {T : String} {r : V → List V → Hp → VK → Prop} {to : TE} (q : to σ H fun x H1 => BM K T x H1 (tr σ H1 fun xs H2 => r x xs H2 Q)) : tBM K T r to tr σ H Q := q
theorem bmL {a : Addr} {xs : List V} {N : Prop} (h : H a = some (.lst xs)) (q : N) : BM K "list" (.ref a) H N := ⟨.inl ⟨rfl, _, SqL.of h⟩, q⟩
theorem app {a : Addr} {xs : List V} (h : H a = some (.lst xs)) (hl : xs.length ≤ 1000) (q : Q .non (upd H a (.lst (xs ++ [y])))) : rAppend (.ref a) [y] H Q := ⟨a, xs, y, rfl, rfl, h, small1000 hl, q⟩
theorem popAt {a : Addr} {xs : List V} {k : Nat} (h : H a = some (.lst xs)) (h0 : 0 ≤ i) (h1 : i < 1000000) (e : seqIndex? i xs.length = some k) (hy : xs[k]? = some y) (q : Q y (upd H a (.lst (xs.eraseIdx k)))) : rPopAt (.ref a) [.int i] H Q := ⟨a, xs, i, k, y, rfl, rfl, h, by omega, by omega, e, hy, q⟩
def INS (x : V) (vs : List V) (H : Hp) (Q : VK) : Prop := ∃ (l : Addr) (xs : List V) (i : Int) (y : V), x = .ref l ∧ vs = [.int i, y] ∧ H l = some (.lst xs) ∧ xs.length < sizeLine ∧ 0 ≤ i ∧ i < 2 ^ 63 ∧ Q .non (upd H l (.lst (xs.take i.toNat ++ [y] ++ xs.drop i.toNat)))
theorem ins {a : Addr} {xs : List V} (h : H a = some (.lst xs)) (hl : xs.length ≤ 1000) (h0 : 0 ≤ i) (h1 : i < 1000000) (q : Q .non (upd H a (.lst (xs.take i.toNat ++ [y] ++ xs.drop i.toNat)))) : INS (.ref a) [.int i, y] H Q := ⟨a, xs, i, y, rfl, rfl, h, small1000 hl, h0, by omega, q⟩
theorem neB {a b : Bool} (q : Q (.bl (!decide (a = b))) H) : rNe (.bl a) (.bl b) H Q := ⟨rfl, by
  have e : decide (V.bl a = V.bl b) = decide (a = b) := by
    by_cases h : a = b
    · rw [decide_eq_true h, decide_eq_true (congrArg V.bl h)]
    · rw [decide_eq_false h, decide_eq_false (fun z => h (V.bl.inj z))]
  rw [e]; exact q⟩
def NOTN (x y : V) (H : Hp) (Q : VK) : Prop := y = .non ∧ Q (.bl (!decide (x = .non))) H
def ISN (x y : V) (H : Hp) (Q : VK) : Prop := y = .non ∧ Q (.bl (decide (x = .non))) H
theorem notn (q : ta σ H fun x H1 => tb σ H1 fun y H2 => NOTN x y H2 Q) : tOp (fun x y H Q => y = .non ∧ Q (.bl (!decide (x = .non))) H) ta tb σ H Q := q
theorem isn (q : ta σ H fun x H1 => tb σ H1 fun y H2 => ISN x y H2 Q) : tOp (fun x y H Q => y = .non ∧ Q (.bl (decide (x = .non))) H) ta tb σ H Q := q
theorem notnN (q : Q (.bl false) H) : NOTN .non .non H Q := ⟨rfl, by rw [decide_eq_true rfl]; exact q⟩
theorem notnB {b : Bool} (q : Q (.bl true) H) : NOTN (.bl b) .non H Q := ⟨rfl, by rw [decide_eq_false (fun z => by cases z)]; exact q⟩
theorem notnI {i : Int} (q : Q (.bl true) H) : NOTN (.int i) .non H Q := ⟨rfl, by rw [decide_eq_false (fun z => by cases z)]; exact q⟩
theorem isnN (q : Q (.bl true) H) : ISN .non .non H Q := ⟨rfl, by rw [decide_eq_true rfl]; exact q⟩
theorem isnI {i : Int} (q : Q (.bl false) H) : ISN (.int i) .non H Q := ⟨rfl, by rw [decide_eq_false (fun z => by cases z)]; exact q⟩
/-- an and whose parts change nothing: one way -/
def tAndS (ta tb : TE) : TE := tAndV ta tb
theorem pe_andS {X : Cx} {a b : Expr} {rest : List Expr} {pos : Pos} {ta tb : TE} (ha : PE X a ta) (hb : PE X (.BoolOp .And (b :: rest) pos) tb) : PE X (.BoolOp .And (a :: b :: rest) pos) (tAndS ta tb) := pe_and ha hb
theorem andS {b1 b2 : Bool} (h1 : ∀ Q' : VK, Q' (.bl b1) H → ta σ H Q') (h2 : ∀ Q' : VK, Q' (.bl b2) H → tb σ H Q') (q : Q (.bl (b1 && b2)) H) : tAndS ta tb σ H Q := by
  refine h1 _ ⟨b1, rfl, ?_⟩
  cases b1 with
  | true => rw [if_pos rfl]; exact h2 _ (by simpa using q)
  | false => rw [if_neg Bool.false_ne_true]; simpa using q
end
end Rd

set_option Elab.async false
set_option linter.all false
set_option maxRecDepth 100000
namespace Mi
open PySem PySem.Spec PyProof.Rows L2
abbrev D := PyData
def kD : Key → D
  | .inl i => .int i
  | .inr x => .str x
/-! ### what a value stands for -/
mutual
inductive Rp (K : PySem.W.Frag) (F : Hp) : V → D → Prop
  | non : Rp K F .non .none
  | bl (b : Bool) : Rp K F (.bl b) (.bool b)
  | int (i : Int) : Rp K F (.int i) (.int i)
  | str (x : Str) : Rp K F (.str x) (.str x)
  | lst {a : Addr} {xs : List V} {ds : List D} : F a = some (.lst xs) → RpA K F xs ds → Rp K F (.ref a) (.list ds)
  | scr {a : Addr} {xs : List V} {ds : List D} : SqL K F a xs → RpA K F xs ds → Rp K F (.ref a) (.dict [(.none, .list ds)])
  | tup {a : Addr} {xs : List V} {ds : List D} : SqT K F a xs → RpA K F xs ds → Rp K F (.ref a) (.tuple ds)
  | dic {a : Addr} {kvs : List (Key × V)} {ds : List (D × D)} : F a = some (.dK kvs) → RpK K F kvs ds → Rp K F (.ref a) (.dict ds)
inductive RpA (K : PySem.W.Frag) (F : Hp) : List V → List D → Prop
  | nil : RpA K F [] []
  | cons {v : V} {vs : List V} {d : D} {ds : List D} : Rp K F v d → RpA K F vs ds → RpA K F (v :: vs) (d :: ds)
inductive RpK (K : PySem.W.Frag) (F : Hp) : List (Key × V) → List (D × D) → Prop
  | nil : RpK K F [] []
  | cons {k : Key} {v : V} {vs : List (Key × V)} {d : D} {ds : List (D × D)} : Rp K F v d → RpK K F vs ds → RpK K F ((k, v) :: vs) ((kD k, d) :: ds)
end
section
variable {K : PySem.W.Frag} {F F' H : Hp}
mutual
theorem Rp.mono (s : Same F F') : ∀ {v : V} {d : D}, Rp K F v d → Rp K F' v d
  | _, _, .non => .non
  | _, _, .bl b => .bl b
  | _, _, .int i => .int i
  | _, _, .str x => .str x
  | _, _, .lst h r => .lst (s _ _ h) (RpA.mono s r)
  | _, _, .scr h r => .scr (s.seq h) (RpA.mono s r)
  | _, _, .tup h r => .tup (s.seqT h) (RpA.mono s r)
  | _, _, .dic h r => .dic (s _ _ h) (RpK.mono s r)
theorem RpA.mono (s : Same F F') : ∀ {v : List V} {d : List D}, RpA K F v d → RpA K F' v d
  | _, _, .nil => .nil
  | _, _, .cons h r => .cons (Rp.mono s h) (RpA.mono s r)
theorem RpK.mono (s : Same F F') : ∀ {v : List (Key × V)} {d : List (D × D)}, RpK K F v d → RpK K F' v d
  | _, _, .nil => .nil
  | _, _, .cons h r => .cons (Rp.mono s h) (RpK.mono s r)
end
theorem RpA.length : ∀ {v : List V} {d : List D}, RpA K F v d → v.length = d.length
  | _, _, .nil => rfl
  | _, _, .cons _ r => by rw [List.length_cons, List.length_cons, RpA.length r]
theorem RpA.get : ∀ {v : List V} {d : List D} {i : Nat} {x : V}, RpA K F v d → v[i]? = some x → ∃ y, d[i]? = some y ∧ Rp K F x y
  | _, _, _, _, .nil, h => by simp at h
  | _, _, 0, _, .cons h r, e => by simp at e; subst e; exact ⟨_, rfl, h⟩
  | _, _, i + 1, _, .cons h r, e => by simpa using RpA.get (i := i) r (by simpa using e)
theorem RpA.get' : ∀ {v : List V} {d : List D} {i : Nat} {y : D}, RpA K F v d → d[i]? = some y → ∃ x, v[i]? = some x ∧ Rp K F x y
  | _, _, _, _, .nil, h => by simp at h
  | _, _, 0, _, .cons h r, e => by simp at e; subst e; exact ⟨_, rfl, h⟩
  | _, _, i + 1, _, .cons h r, e => by simpa using RpA.get' (i := i) r (by simpa using e)
theorem RpA.append : ∀ {v v' : List V} {d d' : List D}, RpA K F v d → RpA K F v' d' → RpA K F (v ++ v') (d ++ d')
  | _, _, _, _, .nil, s => s
  | _, _, _, _, .cons h r, s => .cons h (RpA.append r s)
theorem RpA.take : ∀ {v : List V} {d : List D} (n : Nat), RpA K F v d → RpA K F (v.take n) (d.take n)
  | _, _, 0, _ => .nil
  | _, _, _ + 1, .nil => .nil
  | _, _, n + 1, .cons h r => .cons h (RpA.take n r)
theorem RpA.drop : ∀ {v : List V} {d : List D} (n : Nat), RpA K F v d → RpA K F (v.drop n) (d.drop n)
  | _, _, 0, r => r
  | _, _, _ + 1, .nil => .nil
  | _, _, n + 1, .cons h r => RpA.drop n r
theorem RpA.set : ∀ {v : List V} {d : List D} {x : V} {y : D} (n : Nat), RpA K F v d → Rp K F x y → RpA K F (v.set n x) (d.set n y)
  | _, _, _, _, _, .nil, _ => .nil
  | _, _, _, _, 0, .cons h r, q => .cons q r
  | _, _, _, _, n + 1, .cons h r, q => .cons h (RpA.set n r q)
theorem RpA.ints : ∀ {v : List V} {d : List D} {ns : List Int}, RpA K F v d → d = ns.map PyData.int → v = ns.map V.int
  | _, _, [], .nil, _ => rfl
  | _, _, [], .cons _ _, e => by cases e
  | _, _, _ :: _, .nil, e => by cases e
  | _, _, n :: ns, .cons h r, e => by
    cases e
    cases h
    rw [RpA.ints r rfl]
    rfl
theorem RpA.ofInts : ∀ ns : List Int, RpA K F (ns.map V.int) (ns.map PyData.int)
  | [] => .nil
  | n :: ns => .cons (.int n) (RpA.ofInts ns)
theorem RpA.bools : ∀ {v : List V} {d : List D} {ns : List Bool}, RpA K F v d → d = ns.map PyData.bool → v = ns.map V.bl
  | _, _, [], .nil, _ => rfl
  | _, _, [], .cons _ _, e => by cases e
  | _, _, _ :: _, .nil, e => by cases e
  | _, _, n :: ns, .cons h r, e => by
    cases e
    cases h
    rw [RpA.bools r rfl]
    rfl
/-! data without dicts: what == reads -/
mutual
def nodic : D → Bool
  | .list xs => nodicA xs
  | .tuple xs => nodicA xs
  | .dict _ => false
  | _ => true
def nodicA : List D → Bool
  | [] => true
  | x :: xs => nodic x && nodicA xs
end
mutual
theorem Rp.dp : ∀ {v : V} {d : D}, Rp K F v d → nodic d = true → Dp K F v d
  | _, _, .non, _ => .non
  | _, _, .bl b, _ => .bl b
  | _, _, .int i, _ => .int i
  | _, _, .str x, _ => .str x
  | _, _, .lst h r, e => .lst (SqL.of h) (RpA.dp r (by simpa [nodic] using e))
  | _, _, .scr h r, e => by simp [nodic] at e
  | _, _, .tup h r, e => .tup h (RpA.dp r (by simpa [nodic] using e))
  | _, _, .dic h r, e => by simp [nodic] at e
theorem RpA.dp : ∀ {v : List V} {d : List D}, RpA K F v d → nodicA d = true → DpAll K F v d
  | _, _, .nil, _ => .nil
  | _, _, .cons h r, e => by
    simp only [nodicA, Bool.and_eq_true] at e
    exact .cons (Rp.dp h e.1) (RpA.dp r e.2)
end
end
/-! ### the slots -/
inductive Sl where
  | no
  | val (d : D)
  | own (d : D)
  | io (d : D)
abbrev Env := List Sl
def OwnR (K : PySem.W.Frag) (F H : Hp) (a : Addr) : D → Prop
  | .list ds => ∃ vs, H a = some (.lst vs) ∧ RpA K F vs ds
  | .dict ds => ∃ kvs, H a = some (.dK kvs) ∧ RpK K F kvs ds
  | _ => False
/-- an object of a class: the class's name, the fields -/
def InsR (K : PySem.W.Frag) (F H : Hp) (a : Addr) (ds : List D) : Prop := ∃ (x : Str) (C dx : Addr) (fs : List (Str × V)) (kds : List (D × D)), ds = [.str x, .dict kds] ∧ PySem.W.nsIn K mainGlobals x = some (some (.ref C)) ∧ H a = some (.ins C dx fs) ∧ RpK K F (fs.map fun p => (Sum.inr p.1, p.2)) kds
def OwnS (K : PySem.W.Frag) (F H : Hp) (a : Addr) (d : D) : Prop := match d with
  | .tuple ds => InsR K F H a ds
  | d => OwnR K F H a d
def frz : D → Bool
  | .tuple _ => false
  | _ => true
theorem OwnS.r {K : PySem.W.Frag} {F H : Hp} {a : Addr} {d : D} (h : OwnS K F H a d) (e : frz d = true) : OwnR K F H a d := by
  cases d with
  | tuple ds => cases e
  | _ => exact h
theorem OwnR.s {K : PySem.W.Frag} {F H : Hp} {a : Addr} {d : D} (h : OwnR K F H a d) : OwnS K F H a d := by
  cases d with
  | tuple ds => exact h.elim
  | _ => exact h
def SlR (K : PySem.W.Frag) (F H0 H : Hp) (s : Option (Option V)) : Sl → Prop
  | .no => True
  | .val d => ∃ v, s = some (some v) ∧ Rp K F v d
  | .own d => ∃ a, s = some (some (.ref a)) ∧ F a = none ∧ H0 a = none ∧ OwnS K F H a d
  | .io _ => True
/-- where a body stands: the heap at its entry, its io object, what was fixed at its entry -/
structure Fm where
  H0 : Hp
  io : Nat → Option Addr
  F0 : Hp
  inj : ∀ k l a, io k = some a → io l = some a → k = l
structure R (K : PySem.W.Frag) (Φ : Fm) (F : Hp) (σ : L2.St) (H : Hp) (ρ : Env) : Prop where
  len : σ.length = ρ.length
  sub : Same F H
  sub0 : Same Φ.F0 F
  new : ∀ b, Φ.F0 b = none → Φ.H0 b ≠ none → F b = none
  kept : ∀ b o, Φ.H0 b = some o → (∀ k, Φ.io k ≠ some b) → H b = some o
  dom : ∀ b, H b = none → Φ.H0 b = none
  sl : ∀ (i : Nat) (s : Sl), ρ[i]? = some s → SlR K F Φ.H0 H σ[i]? s
  dis : ∀ (i j : Nat) (a : Addr) (d e : D), ρ[i]? = some (.own d) → ρ[j]? = some (.own e) → σ[i]? = some (some (.ref a)) → σ[j]? = some (some (.ref a)) → i = j
  io1 : ∀ k a, Φ.io k = some a → Φ.H0 a ≠ none ∧ F a = none ∧ ∃ d, ρ[k]? = some (.io d) ∧ σ[k]? = some (some (.ref a)) ∧ OwnS K F H a d
  io2 : ∀ (i : Nat) (d : D), ρ[i]? = some (.io d) → ∃ a, Φ.io i = some a
theorem OwnR.mono {K : PySem.W.Frag} {F F' H H' : Hp} {a : Addr} {d : D} (s : Same F F') (e : ∀ o, H a = some o → H' a = some o) (h : OwnR K F H a d) : OwnR K F' H' a d := by
  cases d with
  | list ds => obtain ⟨vs, h1, h2⟩ := h; exact ⟨vs, e _ h1, h2.mono s⟩
  | dict ds => obtain ⟨vs, h1, h2⟩ := h; exact ⟨vs, e _ h1, h2.mono s⟩
  | _ => exact h.elim
theorem OwnR.ex {K : PySem.W.Frag} {F H : Hp} {a : Addr} {d : D} (h : OwnR K F H a d) : ∃ o, H a = some o := by
  cases d with
  | list ds => obtain ⟨vs, h1, h2⟩ := h; exact ⟨_, h1⟩
  | dict ds => obtain ⟨vs, h1, h2⟩ := h; exact ⟨_, h1⟩
  | _ => exact h.elim
theorem InsR.mono {K : PySem.W.Frag} {F F' H H' : Hp} {a : Addr} {ds : List D} (s : Same F F') (e : ∀ o, H a = some o → H' a = some o) (h : InsR K F H a ds) : InsR K F' H' a ds := by
  obtain ⟨x, C, dx, fs, kds, h0, h1, h2, h3⟩ := h
  exact ⟨x, C, dx, fs, kds, h0, h1, e _ h2, h3.mono s⟩
theorem OwnS.mono {K : PySem.W.Frag} {F F' H H' : Hp} {a : Addr} {d : D} (s : Same F F') (e : ∀ o, H a = some o → H' a = some o) (h : OwnS K F H a d) : OwnS K F' H' a d := by
  cases d with
  | tuple ds => exact InsR.mono s e h
  | list ds => exact OwnR.mono (d := .list ds) s e h
  | dict ds => exact OwnR.mono (d := .dict ds) s e h
  | _ => exact h.elim
theorem OwnS.ex {K : PySem.W.Frag} {F H : Hp} {a : Addr} {d : D} (h : OwnS K F H a d) : ∃ o, H a = some o := by
  cases d with
  | tuple ds => obtain ⟨x, C, dx, fs, kds, h0, h1, h2, h3⟩ := h; exact ⟨_, h2⟩
  | list ds => exact OwnR.ex (d := .list ds) h
  | dict ds => exact OwnR.ex (d := .dict ds) h
  | _ => exact h.elim
theorem sub_upd {F : Hp} {p : Addr} {o : HO} (n : F p = none) : Same F (upd F p o) := Rd.Same.put n
section
variable {K : PySem.W.Frag} {Φ : Fm} {F H : Hp} {σ : L2.St} {ρ : Env}
/-- the heap and the fixed part grow -/
theorem R.grow (h : R K Φ F σ H ρ) {F' H' : Hp} (sF : Same F F') (sub : Same F' H') (new : ∀ b, F b = none → H b ≠ none → F' b = none) (kept : ∀ b o, H b = some o → H' b = some o) : R K Φ F' σ H' ρ := by
  have dm : ∀ b, Φ.H0 b ≠ none → H b ≠ none := fun b z e => z (h.dom b e)
  have fr : ∀ a, F a = none → Φ.H0 a = none → ∀ d, OwnS K F H a d → F' a = none ∧ OwnS K F' H' a d := fun a n _ d o => by
    obtain ⟨u, eu⟩ := o.ex
    exact ⟨new a n (by rw [eu]; exact fun z => by cases z), o.mono sF (kept a)⟩
  refine ⟨h.len, sub, h.sub0.trans sF, fun b n z => new b (h.new b n z) (dm b z), fun b o e z => kept b o (h.kept b o e z), fun b e => ?_, fun i s e => ?_, h.dis, fun k a e => ?_, h.io2⟩
  · cases z : H b with
    | none => exact h.dom b z
    | some o => rw [kept b o z] at e; cases e
  · have q := h.sl i s e
    cases s with
    | no => trivial
    | val d => obtain ⟨v, e1, e2⟩ := q; exact ⟨v, e1, e2.mono sF⟩
    | own d => obtain ⟨a, e1, e2, e3, e4⟩ := q; exact ⟨a, e1, (fr a e2 e3 d e4).1, e3, (fr a e2 e3 d e4).2⟩
    | io d => trivial
  · obtain ⟨q1, q2, d, q3, q4, q5⟩ := h.io1 k a e
    obtain ⟨u, eu⟩ := q5.ex
    exact ⟨q1, new a q2 (by rw [eu]; exact fun z => by cases z), d, q3, q4, q5.mono sF (kept a)⟩
/-- a new object, fixed at once -/
theorem R.alloc (h : R K Φ F σ H ρ) {p : Addr} {o : HO} (np : H p = none) : R K Φ (upd F p o) σ (upd H p o) ρ ∧ Same F (upd F p o) := by
  have nF : F p = none := h.sub.free np
  refine ⟨h.grow (sub_upd nF) (fun b u e => ?_) (fun b n z => ?_) (fun b u e => ?_), sub_upd nF⟩
  · by_cases z : b = p
    · subst z; rw [upd_same] at e ⊢; exact e
    · rw [upd_ne z] at e ⊢; exact h.sub _ _ e
  · by_cases y : b = p
    · subst y; exact absurd np z
    · rw [upd_ne y]; exact n
  · rw [upd_ne (ne_of_none e np)]; exact e
/-- a new object, not fixed -/
theorem R.allocO (h : R K Φ F σ H ρ) {p : Addr} {o : HO} (np : H p = none) : R K Φ F σ (upd H p o) ρ ∧ F p = none ∧ Φ.H0 p = none ∧ ∀ (j : Nat) d, ρ[j]? = some (.own d) → σ[j]? ≠ some (some (.ref p)) := by
  have nF : F p = none := h.sub.free np
  refine ⟨h.grow (Same.refl _) (fun b u e => ?_) (fun b n z => n) (fun b u e => ?_), nF, h.dom p np, fun j d e z => ?_⟩
  · rw [upd_ne (ne_of_none e nF)]; exact h.sub _ _ e
  · rw [upd_ne (ne_of_none e np)]; exact e
  · obtain ⟨a, e1, _, _, o⟩ := h.sl j _ e
    rw [z] at e1
    cases e1
    obtain ⟨u, eu⟩ := o.ex
    rw [np] at eu
    cases eu
theorem getset {α : Type} {xs : List α} {i j : Nat} {x y : α} (h : (xs.set i x)[j]? = some y) : (i = j ∧ y = x ∧ i < xs.length) ∨ (i ≠ j ∧ xs[j]? = some y) := by
  by_cases e : i = j
  · subst e
    by_cases l : i < xs.length
    · rw [List.getElem?_set_self l] at h
      exact .inl ⟨rfl, (Option.some.inj h).symm, l⟩
    · rw [List.getElem?_eq_none (by rw [List.length_set]; omega)] at h
      cases h
  · rw [List.getElem?_set_ne e] at h
    exact .inr ⟨e, h⟩
def notIo (ρ : Env) (i : Nat) : Bool := match ρ[i]? with
  | some (.io _) => false
  | _ => true
/-- a slot is set -/
theorem R.set (h : R K Φ F σ H ρ) {i : Nat} {v : V} {d : D} (n : notIo ρ i = true) (r : Rp K F v d) : R K Φ F (σ.set i (some v)) H (ρ.set i (.val d)) := by
  refine ⟨by rw [List.length_set, List.length_set, h.len], h.sub, h.sub0, h.new, h.kept, h.dom, fun j s e => ?_, fun j k a d1 d2 e1 e2 f1 f2 => ?_, fun k a e => ?_, fun j d' e => ?_⟩
  · rcases getset e with ⟨rfl, rfl, l⟩ | ⟨z, e'⟩
    · exact ⟨v, by rw [List.getElem?_set_self (by rw [h.len]; exact l)], r⟩
    · rw [List.getElem?_set_ne z]; exact h.sl j s e'
  · rcases getset e1 with ⟨_, z, _⟩ | ⟨z1, e1'⟩
    · cases z
    rcases getset e2 with ⟨_, z, _⟩ | ⟨z2, e2'⟩
    · cases z
    rw [List.getElem?_set_ne z1] at f1
    rw [List.getElem?_set_ne z2] at f2
    exact h.dis j k a d1 d2 e1' e2' f1 f2
  · obtain ⟨q1, q2, d', q3, q4, q5⟩ := h.io1 k a e
    have z : i ≠ k := by
      rintro rfl
      unfold notIo at n
      rw [q3] at n
      cases n
    exact ⟨q1, q2, d', by rw [List.getElem?_set_ne z]; exact q3, by rw [List.getElem?_set_ne z]; exact q4, q5⟩
  · rcases getset e with ⟨_, z, _⟩ | ⟨z, e'⟩
    · cases z
    · exact h.io2 j d' e'
/-- a slot takes a new object of its own -/
theorem R.setO (h : R K Φ F σ H ρ) {i : Nat} {p : Addr} {d : D} (n : notIo ρ i = true) (nF : F p = none) (n0 : Φ.H0 p = none) (ap : ∀ (j : Nat) d, ρ[j]? = some (.own d) → σ[j]? ≠ some (some (.ref p))) (r : OwnS K F H p d) :
    R K Φ F (σ.set i (some (.ref p))) H (ρ.set i (.own d)) := by
  refine ⟨by rw [List.length_set, List.length_set, h.len], h.sub, h.sub0, h.new, h.kept, h.dom, fun j s e => ?_, fun j k a d1 d2 e1 e2 f1 f2 => ?_, fun k a e => ?_, fun j d' e => ?_⟩
  · rcases getset e with ⟨rfl, rfl, l⟩ | ⟨z, e'⟩
    · exact ⟨p, by rw [List.getElem?_set_self (by rw [h.len]; exact l)], nF, n0, r⟩
    · rw [List.getElem?_set_ne z]; exact h.sl j s e'
  · rcases getset e1 with ⟨rfl, _, l1⟩ | ⟨z1, e1'⟩
    · rcases getset e2 with ⟨rfl, _, _⟩ | ⟨z2, e2'⟩
      · rfl
      · rw [List.getElem?_set_self (by rw [h.len]; exact l1)] at f1
        rw [List.getElem?_set_ne z2] at f2
        cases f1
        exact absurd f2 (ap k _ e2')
    · rcases getset e2 with ⟨rfl, _, l2⟩ | ⟨z2, e2'⟩
      · rw [List.getElem?_set_self (by rw [h.len]; exact l2)] at f2
        rw [List.getElem?_set_ne z1] at f1
        cases f2
        exact absurd f1 (ap j _ e1')
      · rw [List.getElem?_set_ne z1] at f1
        rw [List.getElem?_set_ne z2] at f2
        exact h.dis j k a d1 d2 e1' e2' f1 f2
  · obtain ⟨q1, q2, d', q3, q4, q5⟩ := h.io1 k a e
    have z : i ≠ k := by
      rintro rfl
      unfold notIo at n
      rw [q3] at n
      cases n
    exact ⟨q1, q2, d', by rw [List.getElem?_set_ne z]; exact q3, by rw [List.getElem?_set_ne z]; exact q4, q5⟩
  · rcases getset e with ⟨_, z, _⟩ | ⟨z, e'⟩
    · cases z
    · exact h.io2 j d' e'
/-- an own object is fixed -/
theorem R.freeze (h : R K Φ F σ H ρ) {i : Nat} {d : D} (e : ρ[i]? = some (.own d)) (hf : frz d = true) : ∃ v F', σ[i]? = some (some v) ∧ R K Φ F' σ H (ρ.set i (.val d)) ∧ Same F F' ∧ Rp K F' v d := by
  obtain ⟨a, e1, nF, n0, o⟩ := h.sl i _ e
  obtain ⟨u, eu⟩ := o.ex
  have sF : Same F (upd F a u) := sub_upd nF
  have r : Rp K (upd F a u) (.ref a) d := by
    cases d with
    | list ds => obtain ⟨vs, h1, h2⟩ := o; rw [h1] at eu; cases eu; exact .lst upd_same (h2.mono sF)
    | dict ds => obtain ⟨vs, h1, h2⟩ := o; rw [h1] at eu; cases eu; exact .dic upd_same (h2.mono sF)
    | tuple ds => cases hf
    | _ => exact o.elim
  have hi : i < ρ.length := (List.getElem?_eq_some_iff.mp e).1
  have ot : ∀ j a' d', i ≠ j → ρ[j]? = some (.own d') → σ[j]? = some (some (.ref a')) → a' ≠ a := fun j a' d' z q1 q2 => by
    rintro rfl
    exact z (h.dis i j _ _ _ e q1 e1 q2)
  refine ⟨_, _, e1, ⟨by rw [List.length_set, h.len], fun b w q => ?_, h.sub0.trans sF, fun b n z => ?_, h.kept, h.dom, fun j s q => ?_, fun j k b d1 d2 q1 q2 f1 f2 => ?_, fun k b q => ?_, fun j d' q => ?_⟩, sF, r⟩
  · by_cases z : b = a
    · subst z; rw [upd_same] at q; cases q; exact eu
    · rw [upd_ne z] at q; exact h.sub _ _ q
  · by_cases y : b = a
    · subst y; exact absurd n0 z
    · rw [upd_ne y]; exact h.new b n z
  · rcases getset q with ⟨rfl, rfl, l⟩ | ⟨z, q'⟩
    · exact ⟨_, e1, r⟩
    · have w := h.sl j s q'
      cases s with
      | no => trivial
      | val d' => obtain ⟨v, w1, w2⟩ := w; exact ⟨v, w1, w2.mono sF⟩
      | own d' =>
        obtain ⟨a', w1, w2, w3, w4⟩ := w
        exact ⟨a', w1, by rw [upd_ne (ot j a' d' z q' w1)]; exact w2, w3, w4.mono sF fun _ y => y⟩
      | io d' => trivial
  · rcases getset q1 with ⟨_, z, _⟩ | ⟨z1, q1'⟩
    · cases z
    rcases getset q2 with ⟨_, z, _⟩ | ⟨z2, q2'⟩
    · cases z
    exact h.dis j k b d1 d2 q1' q2' f1 f2
  · obtain ⟨w1, w2, d', w3, w4, w5⟩ := h.io1 k b q
    have z : i ≠ k := by
      rintro rfl
      rw [w3] at e
      cases e
    have zb : b ≠ a := by
      rintro rfl
      exact w1 n0
    exact ⟨w1, by rw [upd_ne zb]; exact w2, d', by rw [List.getElem?_set_ne z]; exact w3, w4, w5.mono sF fun _ y => y⟩
  · rcases getset q with ⟨_, z, _⟩ | ⟨z, q'⟩
    · cases z
    · exact h.io2 j d' q'
/-- an object of a slot's own, or the io object -/
def mu (ρ : Env) (i : Nat) : Option D := match ρ[i]? with
  | some (.own d) => some d
  | some (.io d) => some d
  | _ => none
def putMu (ρ : Env) (i : Nat) (d : D) : Env := match ρ[i]? with
  | some (.own _) => ρ.set i (.own d)
  | some (.io _) => ρ.set i (.io d)
  | _ => ρ
theorem R.mu (h : R K Φ F σ H ρ) {i : Nat} {d : D} (e : mu ρ i = some d) : ∃ a, σ[i]? = some (some (.ref a)) ∧ F a = none ∧ OwnS K F H a d := by
  unfold Mi.mu at e
  split at e
  · rename_i d' q
    cases e
    obtain ⟨a, e1, nF, n0, o⟩ := h.sl i _ q
    exact ⟨a, e1, nF, o⟩
  · rename_i d' q
    cases e
    obtain ⟨a, z⟩ := h.io2 i d q
    obtain ⟨w1, w2, d', w3, w4, w5⟩ := h.io1 i a z
    rw [w3] at q
    cases q
    exact ⟨a, w4, w2, w5⟩
  · cases e
/-- it changes -/
theorem R.putMu (h : R K Φ F σ H ρ) {i : Nat} {a : Addr} {d d' : D} {o : HO} (e : Mi.mu ρ i = some d) (ea : σ[i]? = some (some (.ref a))) (r : OwnS K F (upd H a o) a d') : R K Φ F σ (upd H a o) (putMu ρ i d') := by
  obtain ⟨a1, ea1, nF, ow⟩ := h.mu e
  rw [ea] at ea1
  cases ea1
  obtain ⟨u, eu⟩ := ow.ex
  have hi : i < ρ.length := by
    unfold Mi.mu at e
    split at e
    · rename_i q; exact (List.getElem?_eq_some_iff.mp q).1
    · rename_i q; exact (List.getElem?_eq_some_iff.mp q).1
    · cases e
  have sub : Same F (upd H a o) := fun b w q => by rw [upd_ne (ne_of_none q nF)]; exact h.sub _ _ q
  have dom : ∀ b, (upd H a o) b = none → Φ.H0 b = none := fun b q => by
    by_cases z : b = a
    · subst z; rw [upd_same] at q; cases q
    · rw [upd_ne z] at q; exact h.dom b q
  cases q : ρ[i]? with
  | none => unfold Mi.mu at e; rw [q] at e; cases e
  | some s =>
    cases s with
    | no => unfold Mi.mu at e; rw [q] at e; cases e
    | val _ => unfold Mi.mu at e; rw [q] at e; cases e
    | own d0 =>
      unfold Mi.putMu
      rw [q]
      obtain ⟨a0, e0, nF0, n0, ow0⟩ := h.sl i _ q
      rw [ea] at e0
      cases e0
      have ot : ∀ j a' d', i ≠ j → ρ[j]? = some (.own d') → σ[j]? = some (some (.ref a')) → a' ≠ a := fun j a' d' z q1 q2 => by
        rintro rfl
        exact z (h.dis i j _ _ _ q q1 ea q2)
      refine ⟨by rw [List.length_set, h.len], sub, h.sub0, h.new, fun b w q1 z => ?_, dom, fun j s q1 => ?_, fun j k b d1 d2 q1 q2 f1 f2 => ?_, fun k b q1 => ?_, fun j d' q1 => ?_⟩
      · rw [upd_ne (ne_of_none q1 n0)]; exact h.kept _ _ q1 z
      · rcases getset q1 with ⟨rfl, rfl, l⟩ | ⟨z, q'⟩
        · exact ⟨a, ea, nF, n0, r⟩
        · have w := h.sl j s q'
          cases s with
          | no => trivial
          | val d' => exact w
          | own d' =>
            obtain ⟨a', w1, w2, w3, w4⟩ := w
            exact ⟨a', w1, w2, w3, w4.mono (Same.refl _) fun u y => by rw [upd_ne (ot j a' d' z q' w1)]; exact y⟩
          | io d' => trivial
      · rcases getset q1 with ⟨rfl, _, _⟩ | ⟨z1, q1'⟩
        · rcases getset q2 with ⟨rfl, _, _⟩ | ⟨z2, q2'⟩
          · rfl
          · exact h.dis _ k b _ d2 q q2' f1 f2
        · rcases getset q2 with ⟨rfl, _, _⟩ | ⟨z2, q2'⟩
          · exact h.dis j _ b d1 _ q1' q f1 f2
          · exact h.dis j k b d1 d2 q1' q2' f1 f2
      · obtain ⟨w1, w2, d', w3, w4, w5⟩ := h.io1 k b q1
        have z : i ≠ k := by rintro rfl; rw [w3] at q; cases q
        have zb : b ≠ a := by rintro rfl; exact w1 n0
        exact ⟨w1, w2, d', by rw [List.getElem?_set_ne z]; exact w3, w4, w5.mono (Same.refl _) fun u y => by rw [upd_ne zb]; exact y⟩
      · rcases getset q1 with ⟨_, z, _⟩ | ⟨z, q'⟩
        · cases z
        · exact h.io2 j d' q'
    | io d0 =>
      unfold Mi.putMu
      rw [q]
      obtain ⟨a0, z0⟩ := h.io2 i d0 q
      obtain ⟨w1, w2, d1, w3, w4, w5⟩ := h.io1 i a0 z0
      rw [ea] at w4
      cases w4
      refine ⟨by rw [List.length_set, h.len], sub, h.sub0, h.new, fun b w q1 z => ?_, dom, fun j s q1 => ?_, fun j k b d1 d2 q1 q2 f1 f2 => ?_, fun k b q1 => ?_, fun j d' q1 => ?_⟩
      · rw [upd_ne (fun y => z i (by rw [z0, y]))]; exact h.kept _ _ q1 z
      · rcases getset q1 with ⟨rfl, rfl, l⟩ | ⟨z, q'⟩
        · trivial
        · have w := h.sl j s q'
          cases s with
          | no => trivial
          | val d' => exact w
          | own d' =>
            obtain ⟨a', u1, u2, u3, u4⟩ := w
            have zb : a' ≠ a := by rintro rfl; exact w1 u3
            exact ⟨a', u1, u2, u3, u4.mono (Same.refl _) fun u y => by rw [upd_ne zb]; exact y⟩
          | io d' => trivial
      · rcases getset q1 with ⟨_, z, _⟩ | ⟨z1, q1'⟩
        · cases z
        rcases getset q2 with ⟨_, z, _⟩ | ⟨z2, q2'⟩
        · cases z
        exact h.dis j k b d1 d2 q1' q2' f1 f2
      · by_cases y : i = k
        · subst y
          rw [z0] at q1
          cases q1
          exact ⟨w1, w2, d', by rw [List.getElem?_set_self hi], ea, r⟩
        · obtain ⟨v1, v2, e', v3, v4, v5⟩ := h.io1 k b q1
          have zb : b ≠ a := by rintro rfl; exact y (Φ.inj _ _ _ z0 q1)
          exact ⟨v1, v2, e', by rw [List.getElem?_set_ne y]; exact v3, v4, v5.mono (Same.refl _) fun u w => by rw [upd_ne zb]; exact w⟩
      · rcases getset q1 with ⟨rfl, _, _⟩ | ⟨z, q'⟩
        · exact ⟨_, z0⟩
        · exact h.io2 j d' q'
end
end Mi

set_option Elab.async false
set_option linter.all false
set_option maxRecDepth 100000
namespace Mi
open PySem PySem.Spec PyProof.Rows L2
/-! ### readings and what they are worth -/
inductive Res (α : Type) where
  | ok (a : α)
  | exc (c : Str) (d : D) (ρ : Env)
  | stuck
def Res.bind {α β : Type} : Res α → (α → Res β) → Res β
  | .ok a, f => f a
  | .exc c d ρ, _ => .exc c d ρ
  | .stuck, _ => .stuck
def Good {α : Type} (r : Res α) (P : α → Prop) (W : Str → D → Env → Prop) : Prop := match r with
  | .ok a => P a
  | .exc c d ρ => W c d ρ
  | .stuck => False
theorem Good.bind {α β : Type} {r : Res α} {f : α → Res β} {P : β → Prop} {W : Str → D → Env → Prop} (h : Good (r.bind f) P W) : Good r (fun a => Good (f a) P W) W := by
  cases r <;> exact h
theorem Good.mono {α : Type} {r : Res α} {P P' : α → Prop} {W W' : Str → D → Env → Prop} (h : Good r P W) (hp : ∀ a, P a → P' a) (hw : ∀ c d ρ, W c d ρ → W' c d ρ) : Good r P' W' := by
  cases r with
  | ok a => exact hp a h
  | exc c d ρ => exact hw c d ρ h
  | stuck => exact h
abbrev ME := Env → Res (D × Env)
abbrev MT := Env → Res (Bool × Env)
abbrev MA := Env → Res (List D × Env)
abbrev WXm := Str → D → Hp → Env → Prop
def up (F : Hp) (W : WXm) : Str → D → Env → Prop := fun c d ρ => ∀ F', Same F F' → W c d F' ρ
theorem up.weak {F F' : Hp} {W : WXm} (s : Same F F') {c : Str} {d : D} {ρ : Env} (h : up F W c d ρ) : up F' W c d ρ := fun F2 s2 => h F2 (s.trans s2)
def RpX (K : PySem.W.Frag) (F : Hp) (fs : List (Str × V)) (d : D) : Prop := ∃ kds, d = .dict kds ∧ RpK K F (fs.map fun p => ((.inr p.1 : Key), p.2)) kds
/-- what is wanted of an exception, by E, follows from W -/
def XW (K : PySem.W.Frag) (mg : Str → Option Value) (Φ : Fm) (E : L2.St → XK) (W : WXm) : Prop :=
  ∀ (c : Str) (d : D) (ρ : Env) (F : Hp) (σ : L2.St) (H : Hp) (C dx : Addr) (fs : List (Str × V)), R K Φ F σ H ρ → mg c = some (.ref C) → H dx = some (.xd fs) → F dx = none → Φ.H0 dx = none → RpX K F fs d → W c d F ρ → E σ (.ref C) (some dx) H
section
variable (K : PySem.W.Frag) (mg : Str → Option Value) (E : L2.St → XK)
def ShE (t : TE) (m : ME) : Prop := ∀ (Φ : Fm) (F : Hp) (σ : L2.St) (H : Hp) (ρ : Env) (Q : VK) (W : WXm), R K Φ F σ H ρ → XW K mg Φ E W →
  Good (m ρ) (fun p => ∀ v F' H', R K Φ F' σ H' p.2 → Same F F' → Rp K F' v p.1 → Q v H') (up F W) → t σ H Q
def ShT (t : TT) (m : MT) : Prop := ∀ (Φ : Fm) (F : Hp) (σ : L2.St) (H : Hp) (ρ : Env) (Q : Bool → Hp → Prop) (W : WXm), R K Φ F σ H ρ → XW K mg Φ E W →
  Good (m ρ) (fun p => ∀ F' H', R K Φ F' σ H' p.2 → Same F F' → Q p.1 H') (up F W) → t σ H Q
/-- an expression that makes a new object -/
def ShF (t : TE) (m : ME) : Prop := ∀ (Φ : Fm) (F : Hp) (σ : L2.St) (H : Hp) (ρ : Env) (Q : VK) (W : WXm), R K Φ F σ H ρ → XW K mg Φ E W →
  Good (m ρ) (fun p => ∀ a F' H', R K Φ F' σ H' p.2 → Same F F' → F' a = none → Φ.H0 a = none → (∀ (j : Nat) d, p.2[j]? = some (.own d) → σ[j]? ≠ some (some (.ref a))) → OwnR K F' H' a p.1 → Q (.ref a) H') (up F W) → t σ H Q
def mA : List ME → MA
  | [] => fun ρ => .ok ([], ρ)
  | m :: ms => fun ρ => (m ρ).bind fun p => (mA ms p.2).bind fun q => .ok (p.1 :: q.1, q.2)
def ShA (t : TA) (ms : List ME) : Prop := ∀ (Φ : Fm) (F : Hp) (σ : L2.St) (H : Hp) (ρ : Env) (Q : List V → Hp → Prop) (W : WXm), R K Φ F σ H ρ → XW K mg Φ E W →
  Good (mA ms ρ) (fun p => ∀ vs F' H', R K Φ F' σ H' p.2 → Same F F' → RpA K F' vs p.1 → vs.length = ms.length → Q vs H') (up F W) → t σ H Q
end
section
variable {K : PySem.W.Frag} {mg : Str → Option Value} {E : L2.St → XK} {ta tb tc te : TE} {t u : TT} {tr : TA} {ma mb mc m : ME} {mt mu' : MT} {ms : List ME}
/-! names, constants -/
def mVar (i : Nat) : ME := fun ρ => match ρ[i]? with
  | some (.val d) => .ok (d, ρ)
  | some (.own d) => match frz d with
    | true => .ok (d, ρ.set i (.val d))
    | false => .stuck
  | _ => .stuck
theorem sh_var (i : Nat) : ShE K mg E (tVar i) (mVar i) := by
  intro Φ F σ H ρ Q W r _ g
  unfold mVar at g
  cases e : ρ[i]? with
  | none => rw [e] at g; exact g.elim
  | some s =>
    rw [e] at g
    cases s with
    | no => exact g.elim
    | io d => exact g.elim
    | val d =>
      obtain ⟨v, e1, e2⟩ := r.sl i _ e
      exact ⟨v, e1, g v F H r (Same.refl _) e2⟩
    | own d =>
      dsimp only at g
      cases ef : frz d with
      | false => rw [ef] at g; exact g.elim
      | true =>
        rw [ef] at g
        obtain ⟨v, F', e1, r', s', rp⟩ := r.freeze e ef
        exact ⟨v, e1, g v F' H r' s' rp⟩
def mC (d : D) : ME := fun ρ => .ok (d, ρ)
theorem sh_c {v : V} {d : D} (h : ∀ F, Rp K F v d) : ShE K mg E (tC v) (mC d) := fun Φ F σ H ρ Q W r _ g => g v F H r (Same.refl _) (h F)
theorem sh_int (i : Int) : ShE K mg E (tC (.int i)) (mC (.int i)) := sh_c fun _ => .int i
theorem sh_bl (i : Bool) : ShE K mg E (tC (.bl i)) (mC (.bool i)) := sh_c fun _ => .bl i
theorem sh_str (i : Str) : ShE K mg E (tC (.str i)) (mC (.str i)) := sh_c fun _ => .str i
theorem sh_non : ShE K mg E (tC .non) (mC .none) := sh_c fun _ => .non
/-! a new object, then fixed -/
theorem OwnR.fix {F H : Hp} {a : Addr} {d : D} (h : OwnR K F H a d) : ∃ o, H a = some o ∧ ∀ F', Same F F' → F' a = some o → Rp K F' (.ref a) d := by
  cases d with
  | list ds => obtain ⟨vs, h1, h2⟩ := h; exact ⟨_, h1, fun F' s e => .lst e (h2.mono s)⟩
  | dict ds => obtain ⟨vs, h1, h2⟩ := h; exact ⟨_, h1, fun F' s e => .dic e (h2.mono s)⟩
  | _ => exact h.elim
theorem R.fixNew {Φ : Fm} {F H : Hp} {σ : L2.St} {ρ : Env} (r : R K Φ F σ H ρ) {a : Addr} {o : HO} (nF : F a = none) (n0 : Φ.H0 a = none) (ap : ∀ (j : Nat) d, ρ[j]? = some (.own d) → σ[j]? ≠ some (some (.ref a))) (e : H a = some o) :
    R K Φ (upd F a o) σ H ρ ∧ Same F (upd F a o) := by
  have sF : Same F (upd F a o) := sub_upd nF
  refine ⟨⟨r.len, fun b w q => ?_, r.sub0.trans sF, fun b n z => ?_, r.kept, r.dom, fun j s q => ?_, r.dis, fun k b q => ?_, r.io2⟩, sF⟩
  · by_cases z : b = a
    · subst z; rw [upd_same] at q; cases q; exact e
    · rw [upd_ne z] at q; exact r.sub _ _ q
  · by_cases y : b = a
    · subst y; exact absurd n0 z
    · rw [upd_ne y]; exact r.new b n z
  · have w := r.sl j s q
    cases s with
    | no => trivial
    | val d' => obtain ⟨v, w1, w2⟩ := w; exact ⟨v, w1, w2.mono sF⟩
    | own d' =>
      obtain ⟨a', w1, w2, w3, w4⟩ := w
      have z : a' ≠ a := by rintro rfl; exact ap j _ q w1
      exact ⟨a', w1, by rw [upd_ne z]; exact w2, w3, w4.mono sF fun _ y => y⟩
    | io d' => trivial
  · obtain ⟨w1, w2, d', w3, w4, w5⟩ := r.io1 k b q
    have zb : b ≠ a := by rintro rfl; exact w1 n0
    exact ⟨w1, by rw [upd_ne zb]; exact w2, d', w3, w4, w5.mono sF fun _ y => y⟩
theorem ShF.e (h : ShF K mg E te m) : ShE K mg E te m := by
  intro Φ F σ H ρ Q W r x g
  refine h Φ F σ H ρ Q W r x (g.mono (fun p gp a F' H' r' s nF n0 ap o => ?_) fun _ _ _ w => w)
  obtain ⟨u, eu, fx⟩ := OwnR.fix o
  obtain ⟨r2, s2⟩ := r'.fixNew nF n0 ap eu
  exact gp _ _ _ r2 (s.trans s2) (fx _ s2 upd_same)
/-! arguments -/
theorem sha_nil : ShA K mg E tNil [] := fun Φ F σ H ρ Q W r x g => g [] F H r (Same.refl _) .nil rfl
theorem sha_cons (ha : ShE K mg E te m) (hr : ShA K mg E tr ms) : ShA K mg E (tCons te tr) (m :: ms) := by
  intro Φ F σ H ρ Q W r x g
  have g1 := Good.bind (r := m ρ) (f := fun p => (mA ms p.2).bind fun q => .ok (p.1 :: q.1, q.2)) g
  refine ha Φ F σ H ρ _ W r x (g1.mono (fun p gp v F1 H1 r1 s1 rv => ?_) fun _ _ _ w => w)
  have g2 := gp.bind
  refine hr Φ F1 σ H1 p.2 _ W r1 x (g2.mono (fun q gq vs F2 H2 r2 s2 rvs hl => ?_) fun _ _ _ w => up.weak s1 w)
  exact gq (v :: vs) F2 H2 r2 (s1.trans s2) (.cons (rv.mono s2) rvs) (by rw [List.length_cons, List.length_cons, hl])
/-! operators by values -/
def OpSh (K : PySem.W.Frag) (r : R2) (f : D → D → Option D) : Prop := ∀ (Φ : Fm) (F : Hp) (σ : L2.St) (H : Hp) (ρ : Env) (x y : V) (dx dy d : D) (Q : VK), R K Φ F σ H ρ → Rp K F x dx → Rp K F y dy → f dx dy = some d →
  (∀ v F' H', R K Φ F' σ H' ρ → Same F F' → Rp K F' v d → Q v H') → r x y H Q
def ret (o : Option D) (ρ : Env) : Res (D × Env) := match o with
  | some d => .ok (d, ρ)
  | none => .stuck
def mOp (f : D → D → Option D) (ma mb : ME) : ME := fun ρ => (ma ρ).bind fun p => (mb p.2).bind fun q => ret (f p.1 q.1) q.2
theorem sh_op {r : R2} {f : D → D → Option D} (ho : OpSh K r f) (ha : ShE K mg E ta ma) (hb : ShE K mg E tb mb) : ShE K mg E (tOp r ta tb) (mOp f ma mb) := by
  intro Φ F σ H ρ Q W rr x g
  have g1 := Good.bind (r := ma ρ) g
  refine ha Φ F σ H ρ _ W rr x (g1.mono (fun p gp v F1 H1 r1 s1 rv => ?_) fun _ _ _ w => w)
  have g2 := gp.bind
  refine hb Φ F1 σ H1 p.2 _ W r1 x (g2.mono (fun q gq v2 F2 H2 r2 s2 rv2 => ?_) fun _ _ _ w => up.weak s1 w)
  unfold ret at gq
  cases e : f p.1 q.1 with
  | none => rw [e] at gq; exact gq.elim
  | some d =>
    rw [e] at gq
    exact ho Φ F2 σ H2 q.2 v v2 _ _ d Q r2 (rv.mono s2) rv2 e fun v3 F3 H3 r3 s3 rv3 => gq v3 F3 H3 r3 ((s1.trans s2).trans s3) rv3
def UnSh (K : PySem.W.Frag) (r : V → Hp → VK → Prop) (f : D → Option D) : Prop := ∀ (F H : Hp) (x : V) (dx d : D) (Q : VK), Same F H → Rp K F x dx → f dx = some d → (∀ v, Rp K F v d → Q v H) → r x H Q
def mUn (f : D → Option D) (ma : ME) : ME := fun ρ => (ma ρ).bind fun p => ret (f p.1) p.2
theorem sh_un {r : V → Hp → VK → Prop} {f : D → Option D} (ho : UnSh K r f) (ha : ShE K mg E ta ma) : ShE K mg E (tUn r ta) (mUn f ma) := by
  intro Φ F σ H ρ Q W rr x g
  have g1 := Good.bind (r := ma ρ) g
  refine ha Φ F σ H ρ _ W rr x (g1.mono (fun p gp v F1 H1 r1 s1 rv => ?_) fun _ _ _ w => w)
  unfold ret at gp
  cases e : f p.1 with
  | none => rw [e] at gp; exact gp.elim
  | some d =>
    rw [e] at gp
    exact ho F1 H1 v _ d Q r1.sub rv e fun v3 rv3 => gp v3 F1 H1 r1 s1 rv3
/-- operators that make nothing new -/
def OpS (K : PySem.W.Frag) (r : R2) (f : D → D → Option D) : Prop := ∀ (F H : Hp) (x y : V) (dx dy d : D) (Q : VK), Same F H → Rp K F x dx → Rp K F y dy → f dx dy = some d → (∀ v, Rp K F v d → Q v H) → r x y H Q
theorem OpS.sh {r : R2} {f : D → D → Option D} (h : OpS K r f) : OpSh K r f := fun Φ F σ H ρ x y dx dy d Q rr rx ry e q => h F H x y dx dy d Q rr.sub rx ry e fun v rv => q v F H rr (Same.refl _) rv
/-! ints -/
def f2 (g : Int → Int → D) : D → D → Option D
  | .int i, .int j => some (g i j)
  | _, _ => none
def f2c (c : Int → Int → Bool) (g : Int → Int → D) : D → D → Option D
  | .int i, .int j => if c i j = true then some (g i j) else none
  | _, _ => none
theorem ops_int0 {g : Int → Int → V} {g' : Int → Int → D} (h : ∀ i j F, Rp K F (g i j) (g' i j)) : OpS K (rI0 g) (f2 g') := by
  intro F H x y dx dy d Q _ rx ry e q
  cases dx <;> try (cases e; done)
  cases dy <;> try (cases e; done)
  cases rx
  cases ry
  cases e
  exact ⟨_, _, rfl, rfl, q _ (h _ _ _)⟩
theorem ops_int {C : Int → Int → Prop} {c : Int → Int → Bool} {g : Int → Int → V} {g' : Int → Int → D} (hc : ∀ i j, c i j = true → C i j) (h : ∀ i j F, Rp K F (g i j) (g' i j)) : OpS K (rI C g) (f2c c g') := by
  intro F H x y dx dy d Q _ rx ry e q
  cases dx <;> try (cases e; done)
  cases dy <;> try (cases e; done)
  cases rx
  cases ry
  rename_i i j
  have e : (if c i j = true then some (g' i j) else none) = some d := e
  split at e
  · cases e
    exact ⟨_, _, rfl, rfl, hc _ _ (by assumption), q _ (h _ _ _)⟩
  · cases e
def fAdd := f2 fun i j => .int (i + j)
def fSub := f2 fun i j => .int (i - j)
def cMul (i j : Int) : Bool := (decide (-18446744073709551616 < i) && decide (i < 18446744073709551616)) || (decide (-18446744073709551616 < j) && decide (j < 18446744073709551616))
def fMul := f2c cMul fun i j => .int (i * j)
def fMulW := f2c (fun i j => decide (i.natAbs.log2 + j.natAbs.log2 < 1000000)) fun i j => .int (i * j)
def fDiv := f2c (fun _ j => decide (0 < j) && decide (j < 1000000000000000000000000000000000000000000000000000000000000)) fun i j => .int (i / j)
def fMod := f2c (fun _ j => decide (0 < j)) fun i j => .int (i % j)
def fPow := f2c (fun i j => decide (0 ≤ j) && decide (j ≤ 1000000) && decide (i.natAbs < 18446744073709551616)) fun i j => .int (i ^ j.toNat)
theorem s_add : OpSh K (rI0 fun i j => .int (i + j)) fAdd := (ops_int0 fun _ _ _ => .int _).sh
theorem s_sub : OpSh K (rI0 fun i j => .int (i - j)) fSub := (ops_int0 fun _ _ _ => .int _).sh
theorem s_mul : OpSh K (rI CMul fun i j => .int (i * j)) fMul := (ops_int (fun i j h => by
  unfold cMul at h
  unfold CMul
  simp only [Bool.or_eq_true, Bool.and_eq_true, decide_eq_true_eq] at h
  omega) fun _ _ _ => .int _).sh
theorem s_mulW : OpSh K (rI CMulW fun i j => .int (i * j)) fMulW := (ops_int (fun i j h => by show i.natAbs.log2 + j.natAbs.log2 < 1000000; exact of_decide_eq_true h) fun _ _ _ => .int _).sh
theorem cdivW {i j : Int} (h : 0 < j) (h2 : j < 1000000000000000000000000000000000000000000000000000000000000) : CDivW i j := wide_div (b := 200) h (by omega) (by decide) (by decide)
theorem s_fdivW : OpSh K (rI CDivW fun i j => .int (i / j)) fDiv := (ops_int (fun i j h => by
  simp only [Bool.and_eq_true, decide_eq_true_eq] at h
  exact cdivW h.1 h.2) fun _ _ _ => .int _).sh
theorem s_mod : OpSh K (rI (fun _ j => 0 < j) fun i j => .int (i % j)) fMod := (ops_int (fun i j h => of_decide_eq_true h) fun _ _ _ => .int _).sh
theorem s_pow : OpSh K (rI CPow fun i j => .int (i ^ j.toNat)) fPow := (ops_int (fun i j h => by
  simp only [Bool.and_eq_true, decide_eq_true_eq] at h
  exact ⟨h.1.1, h.1.2, by have := h.2; omega⟩) fun _ _ _ => .int _).sh
def fLt := f2 fun i j => .bool (decide (i < j))
def fLe := f2 fun i j => .bool (decide (i ≤ j))
def fGt := f2 fun i j => .bool (decide (j < i))
def fGe := f2 fun i j => .bool (decide (j ≤ i))
theorem s_lt : OpSh K (rI0 fun i j => .bl (decide (i < j))) fLt := (ops_int0 fun _ _ _ => .bl _).sh
theorem s_le : OpSh K (rI0 fun i j => .bl (decide (i ≤ j))) fLe := (ops_int0 fun _ _ _ => .bl _).sh
theorem s_gt : OpSh K (rI0 fun i j => .bl (decide (j < i))) fGt := (ops_int0 fun _ _ _ => .bl _).sh
theorem s_ge : OpSh K (rI0 fun i j => .bl (decide (j ≤ i))) fGe := (ops_int0 fun _ _ _ => .bl _).sh
def fNeg : D → Option D
  | .int i => some (.int (-i))
  | _ => none
theorem s_neg : UnSh K (rU fun i => .int (-i)) fNeg := by
  intro F H x dx d Q _ rx e q
  cases dx <;> try (cases e; done)
  cases rx
  cases e
  exact ⟨_, rfl, q _ (.int _)⟩
/-! scalars compared -/
def fEqS : D → D → Option Bool
  | .none, .none => some true
  | .none, .int _ => some false
  | .int _, .none => some false
  | .none, .bool _ => some false
  | .bool _, .none => some false
  | .none, .str _ => some false
  | .str _, .none => some false
  | .int i, .int j => some (decide (i = j))
  | .bool i, .bool j => some (decide (i = j))
  | .str i, .str j => some (decide (i = j))
  | .int _, .str _ => some false
  | .str _, .int _ => some false
  | .bool _, .str _ => some false
  | .str _, .bool _ => some false
  | _, _ => none
theorem fEqS_ok {F : Hp} {x y : V} {dx dy : D} {b : Bool} (rx : Rp K F x dx) (ry : Rp K F y dy) (e : fEqS dx dy = some b) : scal x y = true ∧ decide (x = y) = b := by
  cases dx <;> cases dy <;> (try (cases e; done)) <;> cases rx <;> cases ry <;> (try cases e) <;> refine ⟨rfl, ?_⟩ <;> first
    | rfl
    | (rw [decide_eq_decide]; constructor <;> (intro z; cases z; rfl))
def fEq (a b : D) : Option D := (fEqS a b).map .bool
def fNe (a b : D) : Option D := (fEqS a b).map fun c => .bool (!c)
theorem s_eq : OpSh K rEq fEq := OpS.sh fun F H x y dx dy d Q _ rx ry e q => by
  unfold fEq at e
  cases z : fEqS dx dy with
  | none => rw [z] at e; cases e
  | some b =>
    rw [z] at e
    cases e
    obtain ⟨h1, h2⟩ := fEqS_ok rx ry z
    exact ⟨h1, by rw [h2]; exact q _ (.bl _)⟩
theorem s_ne : OpSh K rNe fNe := OpS.sh fun F H x y dx dy d Q _ rx ry e q => by
  unfold fNe at e
  cases z : fEqS dx dy with
  | none => rw [z] at e; cases e
  | some b =>
    rw [z] at e
    cases e
    obtain ⟨h1, h2⟩ := fEqS_ok rx ry z
    exact ⟨h1, by rw [h2]; exact q _ (.bl _)⟩
def okD (d : D) : Bool := nodic d && SeqAt.shaped d
def fEqD (a b : D) : Option D := if okD a && okD b then some (.bool (PyData.eqv a b)) else none
def fNeD (a b : D) : Option D := if okD a && okD b then some (.bool (!PyData.eqv a b)) else none
theorem okD_ok {F H : Hp} {x : V} {d : D} (s : Same F H) (r : Rp K F x d) (h : okD d = true) : Dp K H x d ∧ SeqAt.shaped d = true := by
  unfold okD at h
  rw [Bool.and_eq_true] at h
  exact ⟨(r.mono s).dp h.1, h.2⟩
theorem s_eqD : OpSh K (rEqD K) fEqD := OpS.sh fun F H x y dx dy d Q s rx ry e q => by
  unfold fEqD at e
  split at e
  · rename_i h
    rw [Bool.and_eq_true] at h
    cases e
    obtain ⟨h1, h2⟩ := okD_ok s rx h.1
    obtain ⟨h3, h4⟩ := okD_ok s ry h.2
    exact ⟨_, _, h1, h3, h2, h4, q _ (.bl _)⟩
  · cases e
theorem s_neD : OpSh K (rNeD K) fNeD := OpS.sh fun F H x y dx dy d Q s rx ry e q => by
  unfold fNeD at e
  split at e
  · rename_i h
    rw [Bool.and_eq_true] at h
    cases e
    obtain ⟨h1, h2⟩ := okD_ok s rx h.1
    obtain ⟨h3, h4⟩ := okD_ok s ry h.2
    exact ⟨_, _, h1, h3, h2, h4, q _ (.bl _)⟩
  · cases e
def isNon : D → Bool
  | .none => true
  | _ => false
theorem isNon_ok {F : Hp} {x : V} {d : D} (r : Rp K F x d) : decide (x = .non) = isNon d := by
  cases r <;> first
    | rfl
    | (exact decide_eq_false (by intro z; cases z))
def fIsN : D → D → Option D
  | a, .none => some (.bool (isNon a))
  | _, _ => none
def fNotN : D → D → Option D
  | a, .none => some (.bool (!isNon a))
  | _, _ => none
theorem s_isN : OpSh K (fun x y H Q => y = .non ∧ Q (.bl (decide (x = .non))) H) fIsN := OpS.sh fun F H x y dx dy d Q s rx ry e q => by
  cases dy <;> first | (cases e; done) | skip
  cases ry
  cases e
  exact ⟨rfl, by rw [isNon_ok rx]; exact q _ (.bl _)⟩
theorem s_notN : OpSh K (fun x y H Q => y = .non ∧ Q (.bl (!decide (x = .non))) H) fNotN := OpS.sh fun F H x y dx dy d Q s rx ry e q => by
  cases dy <;> first | (cases e; done) | skip
  cases ry
  cases e
  exact ⟨rfl, by rw [isNon_ok rx]; exact q _ (.bl _)⟩
/-! in -/
def flatD : D → Bool
  | .none => true
  | .bool _ => true
  | .int _ => true
  | .str _ => true
  | _ => false
def eqF : D → D → Bool
  | .none, .none => true
  | .bool a, .bool b => a == b
  | .bool a, .int b => (if a then 1 else 0) == b
  | .int a, .bool b => a == (if b then 1 else 0)
  | .int a, .int b => a == b
  | .str a, .str b => a == b
  | _, _ => false
theorem flat_ok {F : Hp} {x : V} {d : D} (r : Rp K F x d) (h : flatD d = true) : flatV x = true := by
  cases r <;> first | rfl | cases h
theorem eqF_ok {F : Hp} {x y : V} {d e : D} (r : Rp K F x d) (r' : Rp K F y e) (h : flatD d = true) (h' : flatD e = true) : eqV x y = eqF d e := by
  cases r <;> first | (cases h; done) | (cases r' <;> first | rfl | cases h')
def itemsD : D → Option (List D)
  | .list xs => some xs
  | .tuple xs => some xs
  | _ => none
def inF (x : D) (xs : List D) : Bool := xs.any fun y => eqF y x
theorem inF_ok {F : Hp} {x : V} {d : D} (r : Rp K F x d) (h : flatD d = true) : ∀ {xs : List V} {ds : List D}, RpA K F xs ds → ds.all flatD = true → xs.all flatV = true ∧ inV x xs = inF d ds
  | _, _, .nil, _ => ⟨rfl, rfl⟩
  | _, _, .cons q qs, hh => by
    rw [List.all_cons, Bool.and_eq_true] at hh
    obtain ⟨i1, i2⟩ := inF_ok r h qs hh.2
    refine ⟨by rw [List.all_cons, flat_ok q hh.1, i1]; rfl, ?_⟩
    unfold inV inF at i2 ⊢
    rw [List.any_cons, List.any_cons, i2, eqF_ok q r hh.1 h]
def fIn (neg : Bool) (a b : D) : Option D := match itemsD b with
  | some ds => if flatD a && ds.all flatD then some (.bool (if neg then !inF a ds else inF a ds)) else none
  | none => none
theorem s_in (neg : Bool) : OpSh K (rIn K neg) (fIn neg) := OpS.sh fun F H x y dx dy d Q s rx ry e q => by
  unfold fIn at e
  cases z : itemsD dy with
  | none => rw [z] at e; cases e
  | some ds =>
    rw [z] at e
    have e : (if (flatD dx && ds.all flatD) = true then some (PyData.bool (if neg then !inF dx ds else inF dx ds)) else none) = some d := e
    split at e
    · rename_i h
      rw [Bool.and_eq_true] at h
      cases e
      cases dy <;> first | (cases z; done) | skip
      · cases z
        cases ry with
        | lst h1 h2 =>
          obtain ⟨i1, i2⟩ := inF_ok rx h.1 h2 h.2
          exact ⟨_, _, rfl, .inl (SqL.of (s _ _ h1)), flat_ok rx h.1, i1, by rw [i2]; exact q _ (.bl _)⟩
      · cases z
        cases ry with
        | tup h1 h2 =>
          obtain ⟨i1, i2⟩ := inF_ok rx h.1 h2 h.2
          exact ⟨_, _, rfl, .inr (s.seqT h1), flat_ok rx h.1, i1, by rw [i2]; exact q _ (.bl _)⟩
    · cases e
def fInD (neg : Bool) : D → D → Option D
  | a, .list ds => if okD a && okD (.list ds) then some (.bool (if neg then !ds.any fun z => PyData.eqv z a else ds.any fun z => PyData.eqv z a)) else none
  | _, _ => none
theorem s_inD : OpSh K (rInD K) (fInD false) := OpS.sh fun F H x y dx dy d Q s rx ry e q => by
  cases dy <;> first | (cases e; done) | skip
  rename_i ds
  have e : (if (okD dx && okD (.list ds)) = true then some (PyData.bool (ds.any fun z => PyData.eqv z dx)) else none) = some d := e
  split at e
  · rename_i h
    rw [Bool.and_eq_true] at h
    cases e
    obtain ⟨h1, h2⟩ := okD_ok s rx h.1
    obtain ⟨h3, h4⟩ := okD_ok s ry h.2
    exact ⟨_, _, h1, h3, h2, h4, q _ (.bl _)⟩
  · cases e
theorem s_notInD : OpSh K (rNotInD K) (fInD true) := OpS.sh fun F H x y dx dy d Q s rx ry e q => by
  cases dy <;> first | (cases e; done) | skip
  rename_i ds
  have e : (if (okD dx && okD (.list ds)) = true then some (PyData.bool (!ds.any fun z => PyData.eqv z dx)) else none) = some d := e
  split at e
  · rename_i h
    rw [Bool.and_eq_true] at h
    cases e
    obtain ⟨h1, h2⟩ := okD_ok s rx h.1
    obtain ⟨h3, h4⟩ := okD_ok s ry h.2
    exact ⟨_, _, h1, h3, h2, h4, q _ (.bl _)⟩
  · cases e
/-! items -/
def fIxL : D → D → Option D
  | .list ds, .int i => atI ds i
  | _, _ => none
def fIxT : D → D → Option D
  | .tuple ds, .int i => atI ds i
  | _, _ => none
theorem atI_rp {F : Hp} {xs : List V} {ds : List D} {i : Int} {d : D} (r : RpA K F xs ds) (e : atI ds i = some d) : ∃ v, atI xs i = some v ∧ Rp K F v d := by
  unfold atI at e ⊢
  rw [r.length]
  cases z : ixN ds.length i with
  | none => rw [z] at e; cases e
  | some j =>
    rw [z] at e
    exact r.get' e
theorem s_ixL : OpSh K (rIxL K) fIxL := OpS.sh fun F H x y dx dy d Q s rx ry e q => by
  cases dx <;> first | (cases e; done) | skip
  cases dy <;> first | (cases e; done) | skip
  cases rx with
  | lst h1 h2 =>
    cases ry
    obtain ⟨v, e1, e2⟩ := atI_rp h2 e
    exact ⟨_, _, _, v, rfl, rfl, SqL.of (s _ _ h1), e1, q _ e2⟩
theorem s_ixT : OpSh K (rIxT K) fIxT := OpS.sh fun F H x y dx dy d Q s rx ry e q => by
  cases dx <;> first | (cases e; done) | skip
  cases dy <;> first | (cases e; done) | skip
  cases rx with
  | tup h1 h2 =>
    cases ry
    obtain ⟨v, e1, e2⟩ := atI_rp h2 e
    exact ⟨_, _, _, v, rfl, rfl, s.seqT h1, e1, q _ e2⟩
/-! tests, truth -/
def bl1 : D → Option Bool
  | .bool b => some b
  | _ => none
def mB (m : ME) : MT := fun ρ => (m ρ).bind fun p => match bl1 p.1 with
  | some b => .ok (b, p.2)
  | none => .stuck
theorem bl1_ok {F : Hp} {v : V} {d : D} {b : Bool} (r : Rp K F v d) (e : bl1 d = some b) : v = .bl b := by
  cases r <;> first | (cases e; rfl) | cases e
theorem sht_of {k : VK} (he : ShE K mg E te m) : ∀ (Φ : Fm) (F : Hp) (σ : L2.St) (H : Hp) (ρ : Env) (Q : Bool → Hp → Prop) (W : WXm), R K Φ F σ H ρ → XW K mg Φ E W →
    Good (mB m ρ) (fun p => ∀ F' H', R K Φ F' σ H' p.2 → Same F F' → Q p.1 H') (up F W) → te σ H fun x H1 => ∃ c, x = .bl c ∧ Q c H1 := by
  intro Φ F σ H ρ Q W r x g
  have g1 := Good.bind (r := m ρ) g
  refine he Φ F σ H ρ _ W r x (g1.mono (fun p gp v F1 H1 r1 s1 rv => ?_) fun _ _ _ w => w)
  cases e : bl1 p.1 with
  | none => rw [e] at gp; exact gp.elim
  | some b => rw [e] at gp; exact ⟨b, bl1_ok rv e, gp F1 H1 r1 s1⟩
theorem sht_test (he : ShE K mg E te m) : ShT K mg E (tTest te) (mB m) := fun Φ F σ H ρ Q W r x g => sht_of (k := fun _ _ => True) he Φ F σ H ρ Q W r x g
theorem sht_B (he : ShE K mg E te m) : ShT K mg E (L2.tB te) (mB m) := fun Φ F σ H ρ Q W r x g => sht_of (k := fun _ _ => True) he Φ F σ H ρ Q W r x g
def mAndT (a b : MT) : MT := fun ρ => (a ρ).bind fun p => if p.1 = true then b p.2 else .ok (false, p.2)
def mOrT (a b : MT) : MT := fun ρ => (a ρ).bind fun p => if p.1 = true then .ok (true, p.2) else b p.2
def mNotT (a : MT) : MT := fun ρ => (a ρ).bind fun p => .ok (!p.1, p.2)
theorem sht_and (h1 : ShT K mg E t mt) (h2 : ShT K mg E u mu') : ShT K mg E (tAnd t u) (mAndT mt mu') := by
  intro Φ F σ H ρ Q W r x g
  have g1 := Good.bind (r := mt ρ) g
  refine h1 Φ F σ H ρ _ W r x (g1.mono (fun p gp F1 H1 r1 s1 => ?_) fun _ _ _ w => w)
  by_cases c : p.1 = true
  · rw [if_pos c] at gp ⊢
    exact h2 Φ F1 σ H1 p.2 _ W r1 x (gp.mono (fun q gq F2 H2 r2 s2 => gq F2 H2 r2 (s1.trans s2)) fun _ _ _ w => up.weak s1 w)
  · rw [if_neg c] at gp ⊢
    exact gp F1 H1 r1 s1
theorem sht_or (h1 : ShT K mg E t mt) (h2 : ShT K mg E u mu') : ShT K mg E (tOr t u) (mOrT mt mu') := by
  intro Φ F σ H ρ Q W r x g
  have g1 := Good.bind (r := mt ρ) g
  refine h1 Φ F σ H ρ _ W r x (g1.mono (fun p gp F1 H1 r1 s1 => ?_) fun _ _ _ w => w)
  by_cases c : p.1 = true
  · rw [if_pos c] at gp ⊢
    exact gp F1 H1 r1 s1
  · rw [if_neg c] at gp ⊢
    exact h2 Φ F1 σ H1 p.2 _ W r1 x (gp.mono (fun q gq F2 H2 r2 s2 => gq F2 H2 r2 (s1.trans s2)) fun _ _ _ w => up.weak s1 w)
theorem sht_not (h1 : ShT K mg E t mt) : ShT K mg E (tNot t) (mNotT mt) := by
  intro Φ F σ H ρ Q W r x g
  have g1 := Good.bind (r := mt ρ) g
  exact h1 Φ F σ H ρ _ W r x (g1.mono (fun p gp F1 H1 r1 s1 => gp F1 H1 r1 s1) fun _ _ _ w => w)
def mAndV (a b : ME) : ME := fun ρ => (mB a ρ).bind fun p => if p.1 = true then b p.2 else .ok (.bool false, p.2)
def mOrV (a b : ME) : ME := fun ρ => (mB a ρ).bind fun p => if p.1 = true then .ok (.bool true, p.2) else b p.2
def mNotV (a : ME) : ME := fun ρ => (mB a ρ).bind fun p => .ok (.bool (!p.1), p.2)
theorem sh_andV (h1 : ShE K mg E ta ma) (h2 : ShE K mg E tb mb) : ShE K mg E (tAndV ta tb) (mAndV ma mb) := by
  intro Φ F σ H ρ Q W r x g
  have g1 := Good.bind (r := mB ma ρ) g
  refine sht_of (k := fun _ _ => True) h1 Φ F σ H ρ (fun c H1 => if c = true then tb σ H1 Q else Q (.bl false) H1) W r x (g1.mono (fun p gp F1 H1 r1 s1 => ?_) fun _ _ _ w => w)
  by_cases c : p.1 = true
  · rw [if_pos c] at gp ⊢
    exact h2 Φ F1 σ H1 p.2 _ W r1 x (gp.mono (fun q gq v F2 H2 r2 s2 => gq v F2 H2 r2 (s1.trans s2)) fun _ _ _ w => up.weak s1 w)
  · rw [if_neg c] at gp ⊢
    exact gp _ F1 H1 r1 s1 (.bl false)
theorem sh_orV (h1 : ShE K mg E ta ma) (h2 : ShE K mg E tb mb) : ShE K mg E (tOrV ta tb) (mOrV ma mb) := by
  intro Φ F σ H ρ Q W r x g
  have g1 := Good.bind (r := mB ma ρ) g
  refine sht_of (k := fun _ _ => True) h1 Φ F σ H ρ (fun c H1 => if c = true then Q (.bl true) H1 else tb σ H1 Q) W r x (g1.mono (fun p gp F1 H1 r1 s1 => ?_) fun _ _ _ w => w)
  by_cases c : p.1 = true
  · rw [if_pos c] at gp ⊢
    exact gp _ F1 H1 r1 s1 (.bl true)
  · rw [if_neg c] at gp ⊢
    exact h2 Φ F1 σ H1 p.2 _ W r1 x (gp.mono (fun q gq v F2 H2 r2 s2 => gq v F2 H2 r2 (s1.trans s2)) fun _ _ _ w => up.weak s1 w)
theorem sh_notV (h1 : ShE K mg E ta ma) : ShE K mg E (tNotV ta) (mNotV ma) := by
  intro Φ F σ H ρ Q W r x g
  have g1 := Good.bind (r := mB ma ρ) g
  exact sht_of (k := fun _ _ => True) h1 Φ F σ H ρ (fun c H1 => Q (.bl (!c)) H1) W r x (g1.mono (fun p gp F1 H1 r1 s1 => gp _ F1 H1 r1 s1 (.bl _)) fun _ _ _ w => w)
def mIf (c : MT) (a b : ME) : ME := fun ρ => (c ρ).bind fun p => if p.1 = true then a p.2 else b p.2
theorem sh_if (h0 : ShT K mg E t mt) (h1 : ShE K mg E ta ma) (h2 : ShE K mg E tb mb) : ShE K mg E (tIf t ta tb) (mIf mt ma mb) := by
  intro Φ F σ H ρ Q W r x g
  have g1 := Good.bind (r := mt ρ) g
  refine h0 Φ F σ H ρ _ W r x (g1.mono (fun p gp F1 H1 r1 s1 => ?_) fun _ _ _ w => w)
  by_cases c : p.1 = true
  · rw [if_pos c] at gp ⊢
    exact h1 Φ F1 σ H1 p.2 _ W r1 x (gp.mono (fun q gq v F2 H2 r2 s2 => gq v F2 H2 r2 (s1.trans s2)) fun _ _ _ w => up.weak s1 w)
  · rw [if_neg c] at gp ⊢
    exact h2 Φ F1 σ H1 p.2 _ W r1 x (gp.mono (fun q gq v F2 H2 r2 s2 => gq v F2 H2 r2 (s1.trans s2)) fun _ _ _ w => up.weak s1 w)
def mChain (f g : D → D → Option D) (a b c : ME) : ME := fun ρ => (a ρ).bind fun p => (b p.2).bind fun q => match (f p.1 q.1).bind bl1 with
  | some true => (c q.2).bind fun s => ret (g q.1 s.1) s.2
  | some false => .ok (.bool false, q.2)
  | none => .stuck
theorem sh_chain {r r' : R2} {f g : D → D → Option D} (o1 : OpS K r f) (o2 : OpSh K r' g) (ha : ShE K mg E ta ma) (hb : ShE K mg E tb mb) (hc : ShE K mg E tc mc) : ShE K mg E (tChain r r' ta tb tc) (mChain f g ma mb mc) := by
  intro Φ F σ H ρ Q W rr x gg
  have g1 := Good.bind (r := ma ρ) gg
  refine ha Φ F σ H ρ _ W rr x (g1.mono (fun p gp v F1 H1 r1 s1 rv => ?_) fun _ _ _ w => w)
  have g2 := gp.bind
  refine hb Φ F1 σ H1 p.2 _ W r1 x (g2.mono (fun q gq v2 F2 H2 r2 s2 rv2 => ?_) fun _ _ _ w => up.weak s1 w)
  cases e : f p.1 q.1 with
  | none => rw [e] at gq; exact gq.elim
  | some d =>
    rw [e] at gq
    have gq : Good (match bl1 d with | some true => (mc q.2).bind fun s => ret (g q.1 s.1) s.2 | some false => .ok (.bool false, q.2) | none => .stuck) (fun p => ∀ v F' H', R K Φ F' σ H' p.2 → Same F F' → Rp K F' v p.1 → Q v H') (up F W) := gq
    refine o1 F2 H2 v v2 _ _ d _ r2.sub (rv.mono s2) rv2 e fun z rz => ?_
    cases eb : bl1 d with
    | none => rw [eb] at gq; exact gq.elim
    | some b =>
      rw [eb] at gq
      cases b with
      | false => exact ⟨false, bl1_ok rz eb, by rw [if_neg Bool.false_ne_true]; exact gq _ F2 H2 r2 (s1.trans s2) (.bl _)⟩
      | true =>
        refine ⟨true, bl1_ok rz eb, ?_⟩
        rw [if_pos rfl]
        have g3 := Good.bind (r := mc q.2) gq
        refine hc Φ F2 σ H2 q.2 _ W r2 x (g3.mono (fun s gs v3 F3 H3 r3 s3 rv3 => ?_) fun _ _ _ w => up.weak (s1.trans s2) w)
        unfold ret at gs
        cases e3 : g q.1 s.1 with
        | none => rw [e3] at gs; exact gs.elim
        | some d3 =>
          rw [e3] at gs
          exact o2 Φ F3 σ H3 s.2 v2 v3 _ _ d3 Q r3 (rv2.mono s3) rv3 e3 fun v4 F4 H4 r4 s4 rv4 => gs v4 F4 H4 r4 (((s1.trans s2).trans s3).trans s4) rv4
theorem c_lt : OpS K (rI0 fun i j => .bl (decide (i < j))) fLt := ops_int0 fun _ _ _ => .bl _
theorem c_le : OpS K (rI0 fun i j => .bl (decide (i ≤ j))) fLe := ops_int0 fun _ _ _ => .bl _
/-! displays -/
def mTup (ms : List ME) : ME := fun ρ => (mA ms ρ).bind fun p => .ok (.tuple p.1, p.2)
theorem sh_tup (h : ShA K mg E tr ms) (hl : ms.length ≤ 1000) : ShE K mg E (tTup tr) (mTup ms) := by
  intro Φ F σ H ρ Q W r x g
  have g1 := Good.bind (r := mA ms ρ) g
  refine h Φ F σ H ρ _ W r x (g1.mono (fun p gp vs F1 H1 r1 s1 rv el => ?_) fun _ _ _ w => w)
  refine ⟨by rw [el, sizeLine_eq]; omega, fun a na => ?_⟩
  obtain ⟨r2, s2⟩ := r1.alloc (o := .tup vs) na
  exact gp _ _ _ r2 (s1.trans s2) (.tup (SqT.of upd_same) (rv.mono s2))
def mLst (ms : List ME) : ME := fun ρ => (mA ms ρ).bind fun p => .ok (.list p.1, p.2)
theorem shf_lst (h : ShA K mg E tr ms) (hl : ms.length ≤ 1000) : ShF K mg E (tLst tr) (mLst ms) := by
  intro Φ F σ H ρ Q W r x g
  have g1 := Good.bind (r := mA ms ρ) g
  refine h Φ F σ H ρ _ W r x (g1.mono (fun p gp vs F1 H1 r1 s1 rv el => ?_) fun _ _ _ w => w)
  refine ⟨by rw [el, sizeLine_eq]; omega, fun a na => ?_⟩
  obtain ⟨r2, nF, n0, ap⟩ := r1.allocO (o := .lst vs) na
  exact gp a _ _ r2 s1 nF n0 ap ⟨vs, upd_same, rv⟩
/-- {} -/
def mDict0 : ME := fun ρ => .ok (.dict [], ρ)
theorem shf_dnew : ShF K mg E tDNewK mDict0 := by
  intro Φ F σ H ρ Q W r x g a na
  obtain ⟨r2, nF, n0, ap⟩ := r.allocO (o := .dK []) na
  exact g a _ _ r2 (Same.refl _) nF n0 ap ⟨[], upd_same, .nil⟩
/-! calls of built-ins by values -/
def CbSh (K : PySem.W.Frag) (r : List V → Hp → VK → Prop) (f : List D → Option D) : Prop := ∀ (Φ : Fm) (F : Hp) (σ : L2.St) (H : Hp) (ρ : Env) (xs : List V) (ds : List D) (d : D) (Q : VK), R K Φ F σ H ρ → RpA K F xs ds → f ds = some d →
  (∀ v F' H', R K Φ F' σ H' ρ → Same F F' → Rp K F' v d → Q v H') → r xs H Q
def mCB (f : List D → Option D) (ms : List ME) : ME := fun ρ => (mA ms ρ).bind fun p => ret (f p.1) p.2
theorem sh_cb {r : List V → Hp → VK → Prop} {f : List D → Option D} (ho : CbSh K r f) (h : ShA K mg E tr ms) : ShE K mg E (tCB r tr) (mCB f ms) := by
  intro Φ F σ H ρ Q W rr x g
  have g1 := Good.bind (r := mA ms ρ) g
  refine h Φ F σ H ρ _ W rr x (g1.mono (fun p gp vs F1 H1 r1 s1 rv el => ?_) fun _ _ _ w => w)
  unfold ret at gp
  cases e : f p.1 with
  | none => rw [e] at gp; exact gp.elim
  | some d =>
    rw [e] at gp
    exact ho Φ F1 σ H1 p.2 vs _ d Q r1 rv e fun v3 F3 H3 r3 s3 rv3 => gp v3 F3 H3 r3 (s1.trans s3) rv3
/-- one that makes a list -/
def CbF (K : PySem.W.Frag) (r : List V → Hp → VK → Prop) (f : List D → Option D) : Prop := ∀ (F H : Hp) (xs : List V) (ds : List D) (d : D) (Q : VK), Same F H → RpA K F xs ds → f ds = some d →
  (∀ a ys es, H a = none → d = .list es → RpA K F ys es → Q (.ref a) (upd H a (.lst ys))) → r xs H Q
theorem shf_cb {r : List V → Hp → VK → Prop} {f : List D → Option D} (ho : CbF K r f) (h : ShA K mg E tr ms) : ShF K mg E (tCB r tr) (mCB f ms) := by
  intro Φ F σ H ρ Q W rr x g
  have g1 := Good.bind (r := mA ms ρ) g
  refine h Φ F σ H ρ _ W rr x (g1.mono (fun p gp vs F1 H1 r1 s1 rv el => ?_) fun _ _ _ w => w)
  unfold ret at gp
  cases e : f p.1 with
  | none => rw [e] at gp; exact gp.elim
  | some d =>
    rw [e] at gp
    refine ho F1 H1 vs _ d Q r1.sub rv e fun a ys es na ed rys => ?_
    subst ed
    obtain ⟨r2, nF, n0, ap⟩ := r1.allocO (o := .lst ys) na
    exact gp a _ _ r2 s1 nF n0 ap ⟨ys, upd_same, rys⟩
def CbS (K : PySem.W.Frag) (r : List V → Hp → VK → Prop) (f : List D → Option D) : Prop := ∀ (F H : Hp) (xs : List V) (ds : List D) (d : D) (Q : VK), Same F H → RpA K F xs ds → f ds = some d → (∀ v, Rp K F v d → Q v H) → r xs H Q
theorem CbS.sh {r : List V → Hp → VK → Prop} {f : List D → Option D} (h : CbS K r f) : CbSh K r f := fun Φ F σ H ρ xs ds d Q rr rx e q => h F H xs ds d Q rr.sub rx e fun v rv => q v F H rr (Same.refl _) rv
theorem one_rp {F : Hp} {xs : List V} {d : D} (r : RpA K F xs [d]) : ∃ v, xs = [v] ∧ Rp K F v d := by
  cases r with
  | cons h t => cases t; exact ⟨_, rfl, h⟩
theorem two_rp {F : Hp} {xs : List V} {d e : D} (r : RpA K F xs [d, e]) : ∃ v w, xs = [v, w] ∧ Rp K F v d ∧ Rp K F w e := by
  cases r with
  | cons h t =>
    obtain ⟨w, rfl, hw⟩ := one_rp t
    exact ⟨_, w, rfl, h, hw⟩
def cbLen : List D → Option D
  | [.list ds] => some (.int ds.length)
  | [.tuple ds] => some (.int ds.length)
  | [.dict [(.none, .list ds)]] => some (.int ds.length)
  | _ => none
theorem cs_len : CbSh K (fun xs H Q => ∃ p ys, xs = [.ref p] ∧ (SqL K H p ys ∨ SqT K H p ys) ∧ Q (.int ys.length) H) cbLen := CbS.sh fun F H xs ds d Q s rx e q => by
  unfold cbLen at e
  split at e
  · obtain ⟨v, rfl, hv⟩ := one_rp rx
    cases e
    cases hv with
    | lst h1 h2 => exact ⟨_, _, rfl, .inl (SqL.of (s _ _ h1)), by rw [h2.length]; exact q _ (.int _)⟩
  · obtain ⟨v, rfl, hv⟩ := one_rp rx
    cases e
    cases hv with
    | tup h1 h2 => exact ⟨_, _, rfl, .inr (s.seqT h1), by rw [h2.length]; exact q _ (.int _)⟩
  · obtain ⟨v, rfl, hv⟩ := one_rp rx
    cases e
    generalize ez : PyData.dict [(PyData.none, PyData.list _)] = z at hv
    cases hv <;> (try cases ez)
    · rename_i h1 h2
      exact ⟨_, _, rfl, .inl (s.seq h1), by rw [h2.length]; exact q _ (.int _)⟩
    · rename_i a kvs h1 h2
      generalize ey : (PyData.none, PyData.list _) = y at h2
      cases h2 with
      | @cons k v vs d ds q1 q2 => cases k <;> cases ey
  · cases e
def cbAbs : List D → Option D
  | [.int i] => some (.int (if i < 0 then -i else i))
  | _ => none
theorem cs_abs : CbSh K (fun xs H Q => ∃ i, xs = [.int i] ∧ Q (.int (if i < 0 then -i else i)) H) cbAbs := CbS.sh fun F H xs ds d Q s rx e q => by
  unfold cbAbs at e
  split at e
  · obtain ⟨v, rfl, hv⟩ := one_rp rx
    cases e
    cases hv
    exact ⟨_, rfl, q _ (.int _)⟩
  · cases e
def cbMin2 : List D → Option D
  | [.int i, .int j] => some (.int (if j < i then j else i))
  | _ => none
def cbMax2 : List D → Option D
  | [.int i, .int j] => some (.int (if j > i then j else i))
  | _ => none
theorem cs_min2 : CbSh K (fun xs H Q => ∃ i j, xs = [.int i, .int j] ∧ Q (.int (if j < i then j else i)) H) cbMin2 := CbS.sh fun F H xs ds d Q s rx e q => by
  unfold cbMin2 at e
  split at e
  · obtain ⟨v, w, rfl, hv, hw⟩ := two_rp rx
    cases e
    cases hv
    cases hw
    exact ⟨_, _, rfl, q _ (.int _)⟩
  · cases e
theorem cs_max2 : CbSh K (fun xs H Q => ∃ i j, xs = [.int i, .int j] ∧ Q (.int (if j > i then j else i)) H) cbMax2 := CbS.sh fun F H xs ds d Q s rx e q => by
  unfold cbMax2 at e
  split at e
  · obtain ⟨v, w, rfl, hv, hw⟩ := two_rp rx
    cases e
    cases hv
    cases hw
    exact ⟨_, _, rfl, q _ (.int _)⟩
  · cases e
def cbInt : List D → Option D
  | [.int i] => some (.int i)
  | [.bool b] => some (.int (if b then 1 else 0))
  | _ => none
theorem cs_int : CbSh K (fun xs H Q => (∃ i, xs = [.int i] ∧ Q (.int i) H) ∨ ∃ k, xs = [.bl k] ∧ Q (.int (if k then 1 else 0)) H) cbInt := CbS.sh fun F H xs ds d Q s rx e q => by
  unfold cbInt at e
  split at e
  · obtain ⟨v, rfl, hv⟩ := one_rp rx
    cases e
    cases hv
    exact .inl ⟨_, rfl, q _ (.int _)⟩
  · obtain ⟨v, rfl, hv⟩ := one_rp rx
    cases e
    cases hv
    exact .inr ⟨_, rfl, q _ (.int _)⟩
  · cases e
def intsD : List D → Option (List Int)
  | [] => some []
  | .int i :: r => (intsD r).map (i :: ·)
  | _ => none
theorem intsD_eq : ∀ {ds : List D} {ns : List Int}, intsD ds = some ns → ds = ns.map PyData.int
  | [], ns, e => by cases e; rfl
  | .int i :: r, ns, e => by
    unfold intsD at e
    cases z : intsD r with
    | none => rw [z] at e; cases e
    | some ms => rw [z] at e; cases e; rw [intsD_eq z]; rfl
  | .none :: _, _, e => by cases e
  | .bool _ :: _, _, e => by cases e
  | .str _ :: _, _, e => by cases e
  | .list _ :: _, _, e => by cases e
  | .tuple _ :: _, _, e => by cases e
  | .dict _ :: _, _, e => by cases e
theorem intsD_map : ∀ ns : List Int, intsD (ns.map PyData.int) = some ns
  | [] => rfl
  | n :: ns => by show (intsD (ns.map PyData.int)).map (n :: ·) = _; rw [intsD_map ns]; rfl
def boolsD : List D → Option (List Bool)
  | [] => some []
  | .bool i :: r => (boolsD r).map (i :: ·)
  | _ => none
theorem boolsD_eq : ∀ {ds : List D} {ns : List Bool}, boolsD ds = some ns → ds = ns.map PyData.bool
  | [], ns, e => by cases e; rfl
  | .bool i :: r, ns, e => by
    unfold boolsD at e
    cases z : boolsD r with
    | none => rw [z] at e; cases e
    | some ms => rw [z] at e; cases e; rw [boolsD_eq z]; rfl
  | .none :: _, _, e => by cases e
  | .int _ :: _, _, e => by cases e
  | .str _ :: _, _, e => by cases e
  | .list _ :: _, _, e => by cases e
  | .tuple _ :: _, _, e => by cases e
  | .dict _ :: _, _, e => by cases e
theorem boolsD_map : ∀ ns : List Bool, boolsD (ns.map PyData.bool) = some ns
  | [] => rfl
  | n :: ns => by show (boolsD (ns.map PyData.bool)).map (n :: ·) = _; rw [boolsD_map ns]; rfl
def cbSum : List D → Option D
  | [.list ds] => (intsD ds).map fun ns => .int ns.sum
  | _ => none
theorem cs_sum : CbSh K (rSum K) cbSum := CbS.sh fun F H xs ds d Q s rx e q => by
  unfold cbSum at e
  split at e
  · rename_i es
    obtain ⟨v, rfl, hv⟩ := one_rp rx
    cases z : intsD es with
    | none => rw [z] at e; cases e
    | some ns =>
      rw [z] at e
      cases e
      cases hv with
      | lst h1 h2 => exact ⟨_, ns, rfl, by rw [← h2.ints (intsD_eq z)]; exact SqL.of (s _ _ h1), q _ (.int _)⟩
  · cases e
def cbAny : List D → Option D
  | [.list ds] => (boolsD ds).map fun ns => .bool (ns.any id)
  | _ => none
theorem cs_any : CbSh K (rAny K) cbAny := CbS.sh fun F H xs ds d Q s rx e q => by
  unfold cbAny at e
  split at e
  · rename_i es
    obtain ⟨v, rfl, hv⟩ := one_rp rx
    cases z : boolsD es with
    | none => rw [z] at e; cases e
    | some ns =>
      rw [z] at e
      cases e
      cases hv with
      | lst h1 h2 => exact ⟨_, ns, rfl, by rw [← h2.bools (boolsD_eq z)]; exact SqL.of (s _ _ h1), q _ (.bl _)⟩
  · cases e
def cbAll : List D → Option D
  | [.list ds] => (boolsD ds).map fun ns => .bool (ns.all id)
  | _ => none
theorem cs_all : CbSh K (rAll K) cbAll := CbS.sh fun F H xs ds d Q s rx e q => by
  unfold cbAll at e
  split at e
  · rename_i es
    obtain ⟨v, rfl, hv⟩ := one_rp rx
    cases z : boolsD es with
    | none => rw [z] at e; cases e
    | some ns =>
      rw [z] at e
      cases e
      cases hv with
      | lst h1 h2 => exact ⟨_, ns, rfl, by rw [← h2.bools (boolsD_eq z)]; exact SqL.of (s _ _ h1), q _ (.bl _)⟩
  · cases e
def maxI : List Int → Option Int
  | [] => none
  | n :: ns => some (ns.foldl (fun a b => if b > a then b else a) n)
def minI : List Int → Option Int
  | [] => none
  | n :: ns => some (ns.foldl (fun a b => if b < a then b else a) n)
theorem fold_max : ∀ (ns : List Int) (n : Int), (ns.foldl (fun a b => if b > a then b else a) n = n ∨ ns.foldl (fun a b => if b > a then b else a) n ∈ ns) ∧ n ≤ ns.foldl (fun a b => if b > a then b else a) n ∧ ∀ y ∈ ns, y ≤ ns.foldl (fun a b => if b > a then b else a) n
  | [], n => ⟨.inl rfl, Int.le_refl _, fun _ h => by cases h⟩
  | m :: ns, n => by
    obtain ⟨h1, h2, h3⟩ := fold_max ns (if m > n then m else n)
    rw [List.foldl_cons]
    have hm : m ≤ (if m > n then m else n) ∧ n ≤ (if m > n then m else n) := by split <;> omega
    refine ⟨?_, by omega, fun y hy => ?_⟩
    · rcases h1 with h1 | h1
      · rw [h1]
        split
        · exact .inr (List.mem_cons_self ..)
        · exact .inl rfl
      · exact .inr (List.mem_cons_of_mem _ h1)
    · rcases List.mem_cons.mp hy with rfl | hy
      · omega
      · exact h3 y hy
theorem fold_min : ∀ (ns : List Int) (n : Int), (ns.foldl (fun a b => if b < a then b else a) n = n ∨ ns.foldl (fun a b => if b < a then b else a) n ∈ ns) ∧ ns.foldl (fun a b => if b < a then b else a) n ≤ n ∧ ∀ y ∈ ns, ns.foldl (fun a b => if b < a then b else a) n ≤ y
  | [], n => ⟨.inl rfl, Int.le_refl _, fun _ h => by cases h⟩
  | m :: ns, n => by
    obtain ⟨h1, h2, h3⟩ := fold_min ns (if m < n then m else n)
    rw [List.foldl_cons]
    have hm : (if m < n then m else n) ≤ m ∧ (if m < n then m else n) ≤ n := by split <;> omega
    refine ⟨?_, by omega, fun y hy => ?_⟩
    · rcases h1 with h1 | h1
      · rw [h1]
        split
        · exact .inr (List.mem_cons_self ..)
        · exact .inl rfl
      · exact .inr (List.mem_cons_of_mem _ h1)
    · rcases List.mem_cons.mp hy with rfl | hy
      · omega
      · exact h3 y hy
theorem maxI_ok {ns : List Int} {m : Int} (h : maxI ns = some m) : m ∈ ns ∧ ∀ y ∈ ns, y ≤ m := by
  cases ns with
  | nil => cases h
  | cons n ns =>
    cases h
    obtain ⟨h1, h2, h3⟩ := fold_max ns n
    refine ⟨?_, fun y hy => ?_⟩
    · rcases h1 with h1 | h1
      · rw [h1]; exact List.mem_cons_self ..
      · exact List.mem_cons_of_mem _ h1
    · rcases List.mem_cons.mp hy with rfl | hy
      · exact h2
      · exact h3 y hy
theorem minI_ok {ns : List Int} {m : Int} (h : minI ns = some m) : m ∈ ns ∧ ∀ y ∈ ns, m ≤ y := by
  cases ns with
  | nil => cases h
  | cons n ns =>
    cases h
    obtain ⟨h1, h2, h3⟩ := fold_min ns n
    refine ⟨?_, fun y hy => ?_⟩
    · rcases h1 with h1 | h1
      · rw [h1]; exact List.mem_cons_self ..
      · exact List.mem_cons_of_mem _ h1
    · rcases List.mem_cons.mp hy with rfl | hy
      · exact h2
      · exact h3 y hy
def cbMax : List D → Option D
  | [.list ds] => ((intsD ds).bind maxI).map .int
  | _ => none
def cbMin : List D → Option D
  | [.list ds] => ((intsD ds).bind minI).map .int
  | _ => none
theorem cs_max : CbSh K (rMax K) cbMax := CbS.sh fun F H xs ds d Q s rx e q => by
  unfold cbMax at e
  split at e
  · rename_i es
    obtain ⟨v, rfl, hv⟩ := one_rp rx
    cases z : intsD es with
    | none => rw [z] at e; cases e
    | some ns =>
      rw [z] at e
      cases zm : maxI ns with
      | none => simp [zm] at e
      | some m =>
        simp [zm] at e
        subst e
        obtain ⟨o1, o2⟩ := maxI_ok zm
        cases hv with
        | lst h1 h2 =>
          refine ⟨_, ns, rfl, by rw [← h2.ints (intsD_eq z)]; exact SqL.of (s _ _ h1), List.length_pos_of_mem o1, fun m' hm' hy' => ?_⟩
          have e : m' = m := by have := o2 m' hm'; have := hy' m o1; omega
          subst e
          exact q _ (.int _)
  · cases e
theorem cs_min : CbSh K (rMin K) cbMin := CbS.sh fun F H xs ds d Q s rx e q => by
  unfold cbMin at e
  split at e
  · rename_i es
    obtain ⟨v, rfl, hv⟩ := one_rp rx
    cases z : intsD es with
    | none => rw [z] at e; cases e
    | some ns =>
      rw [z] at e
      cases zm : minI ns with
      | none => simp [zm] at e
      | some m =>
        simp [zm] at e
        subst e
        obtain ⟨o1, o2⟩ := minI_ok zm
        cases hv with
        | lst h1 h2 =>
          refine ⟨_, ns, rfl, by rw [← h2.ints (intsD_eq z)]; exact SqL.of (s _ _ h1), List.length_pos_of_mem o1, fun m' hm' hy' => ?_⟩
          have e : m' = m := by have := o2 m' hm'; have := hy' m o1; omega
          subst e
          exact q _ (.int _)
  · cases e
def cbList : List D → Option D
  | [.list ds] => some (.list ds)
  | [.tuple ds] => some (.list ds)
  | _ => none
theorem cf_list : CbF K (fun xs H Q => ∃ p ys, xs = [.ref p] ∧ (SqL K H p ys ∨ SqT K H p ys) ∧ ∀ l, H l = none → Q (.ref l) (upd H l (.lst ys))) cbList := fun F H xs ds d Q s rx e q => by
  unfold cbList at e
  split at e
  · obtain ⟨v, rfl, hv⟩ := one_rp rx
    cases e
    cases hv with
    | lst h1 h2 => exact ⟨_, _, rfl, .inl (SqL.of (s _ _ h1)), fun l hl => q l _ _ hl rfl h2⟩
  · obtain ⟨v, rfl, hv⟩ := one_rp rx
    cases e
    cases hv with
    | tup h1 h2 => exact ⟨_, _, rfl, .inr (s.seqT h1), fun l hl => q l _ _ hl rfl h2⟩
  · cases e
def cbTup : List D → Option D
  | [.list ds] => some (.tuple ds)
  | [.tuple ds] => some (.tuple ds)
  | _ => none
theorem cs_tup : CbSh K (fun xs H Q => ∃ p ys, xs = [.ref p] ∧ ((SqL K H p ys ∧ ∀ l, H l = none → Q (.ref l) (upd H l (.tup ys))) ∨ (SqT K H p ys ∧ Q (.ref p) H))) cbTup := fun Φ F σ H ρ xs ds d Q rr rx e q => by
  unfold cbTup at e
  split at e
  · obtain ⟨v, rfl, hv⟩ := one_rp rx
    cases e
    cases hv with
    | lst h1 h2 =>
      refine ⟨_, _, rfl, .inl ⟨SqL.of (rr.sub _ _ h1), fun l hl => ?_⟩⟩
      obtain ⟨r2, s2⟩ := rr.alloc (o := .tup _) hl
      exact q _ _ _ r2 s2 (.tup (SqT.of upd_same) (h2.mono s2))
  · obtain ⟨v, rfl, hv⟩ := one_rp rx
    cases e
    have hv' := hv
    cases hv with
    | tup h1 h2 => exact ⟨_, _, rfl, .inr ⟨rr.sub.seqT h1, q _ F H rr (Same.refl _) hv'⟩⟩
  · cases e
def cbDivmod : List D → Option D
  | [.int i, .int j] => if (decide (0 < j) && decide (j < 1073741824)) = true then some (.tuple [.int (i / j), .int (i % j)]) else none
  | _ => none
theorem cs_divmod : CbSh K (fun xs H Q => ∃ i j, xs = [.int i, .int j] ∧ CDiv i j ∧ ∀ p, H p = none → Q (.ref p) (upd H p (.tup [.int (i / j), .int (i % j)]))) cbDivmod := fun Φ F σ H ρ xs ds d Q rr rx e q => by
  unfold cbDivmod at e
  split at e
  · obtain ⟨v, w, rfl, hv, hw⟩ := two_rp rx
    split at e
    · rename_i h
      simp only [Bool.and_eq_true, decide_eq_true_eq] at h
      cases e
      cases hv
      cases hw
      refine ⟨_, _, rfl, h, fun p hp => ?_⟩
      obtain ⟨r2, s2⟩ := rr.alloc (o := .tup _) hp
      exact q _ _ _ r2 s2 (.tup (SqT.of upd_same) (.cons (.int _) (.cons (.int _) .nil)))
    · cases e
  · cases e
end
end Mi

set_option Elab.async false
set_option linter.all false
set_option maxRecDepth 100000
namespace Mi
open PySem PySem.Spec PyProof.Rows L2
section
variable {K : PySem.W.Frag} {mg : Str → Option Value} {Φ : Fm} {F H : Hp} {σ : L2.St} {ρ : Env}
/-! more about R -/
theorem R.reslot {F' H' : Hp} {σ1 σ2 : L2.St} {ρ1 ρ2 : Env} (h : R K Φ F' σ1 H' ρ1) (len : σ2.length = ρ2.length)
    (sl : ∀ (i : Nat) (s : Sl), ρ2[i]? = some s → s = .no ∨ (∃ d v, s = .val d ∧ σ2[i]? = some (some v) ∧ Rp K F' v d) ∨ (ρ1[i]? = some s ∧ σ2[i]? = σ1[i]?))
    (io : ∀ k a, Φ.io k = some a → ρ2[k]? = ρ1[k]? ∧ σ2[k]? = σ1[k]?) : R K Φ F' σ2 H' ρ2 := by
  have low : ∀ (i : Nat) d, ρ2[i]? = some (.own d) → ρ1[i]? = some (.own d) ∧ σ2[i]? = σ1[i]? := fun i d e => by
    rcases sl i _ e with z | ⟨_, _, z, _⟩ | z
    · cases z
    · cases z
    · exact z
  refine ⟨len, h.sub, h.sub0, h.new, h.kept, h.dom, fun i s e => ?_, fun i j a d e q1 q2 f1 f2 => ?_, fun k a e => ?_, fun i d e => ?_⟩
  · rcases sl i s e with rfl | ⟨d, v, rfl, e1, e2⟩ | ⟨e1, e2⟩
    · trivial
    · exact ⟨v, e1, e2⟩
    · rw [e2]; exact h.sl i s e1
  · obtain ⟨u1, u2⟩ := low i d q1
    obtain ⟨w1, w2⟩ := low j e q2
    rw [u2] at f1
    rw [w2] at f2
    exact h.dis i j a d e u1 w1 f1 f2
  · obtain ⟨z1, z2⟩ := io k a e
    rw [z1, z2]
    exact h.io1 k a e
  · rcases sl i _ e with z | ⟨_, _, z, _⟩ | z
    · cases z
    · cases z
    · exact h.io2 i d z.1
theorem R.io_not (h : R K Φ F σ H ρ) {i k : Nat} (n : notIo ρ i = true) {a : Addr} (e : Φ.io k = some a) : i ≠ k := by
  obtain ⟨_, _, d, q, _⟩ := h.io1 k a e
  rintro rfl
  unfold notIo at n
  rw [q] at n
  cases n
theorem R.unset (h : R K Φ F σ H ρ) {i : Nat} (n : notIo ρ i = true) : R K Φ F (σ.set i none) H (ρ.set i .no) := by
  refine h.reslot (by rw [List.length_set, List.length_set, h.len]) (fun j s e => ?_) fun k a e => ?_
  · rcases getset e with ⟨_, rfl, _⟩ | ⟨z, e'⟩
    · exact .inl rfl
    · exact .inr (.inr ⟨e', List.getElem?_set_ne z⟩)
  · have z := h.io_not n e
    exact ⟨List.getElem?_set_ne z, List.getElem?_set_ne z⟩
def wipeE (ρ : Env) : List Nat → Env
  | [] => ρ
  | v :: vs => (wipeE ρ vs).set v .no
theorem notIo_set {i j : Nat} (h : notIo ρ i = true) : notIo (ρ.set j .no) i = true := by
  unfold notIo at h ⊢
  split
  · rename_i z
    rcases getset z with ⟨_, z, _⟩ | ⟨_, z⟩
    · cases z
    · rw [z] at h; cases h
  · rfl
theorem notIo_wipe {i : Nat} (h : notIo ρ i = true) : ∀ vs : List Nat, notIo (wipeE ρ vs) i = true
  | [] => h
  | v :: vs => notIo_set (notIo_wipe h vs)
theorem R.wipe (h : R K Φ F σ H ρ) : ∀ vs : List Nat, vs.all (notIo ρ) = true → R K Φ F (L2.wipe σ vs) H (wipeE ρ vs)
  | [], _ => h
  | v :: vs, e => by
    rw [List.all_cons, Bool.and_eq_true] at e
    exact (R.wipe h vs e.2).unset (notIo_wipe e.1 vs)
/-- the slots of a block's own names, as they were -/
def restE (ρ0 ρ : Env) : List Nat → Env
  | [] => ρ
  | v :: vs => (restE ρ0 ρ vs).set v (match ρ0[v]? with | some (.val d) => .val d | _ => .no)
theorem restE_length (ρ0 : Env) : ∀ vs : List Nat, (restE ρ0 ρ vs).length = ρ.length
  | [] => rfl
  | v :: vs => by unfold restE; rw [List.length_set, restE_length ρ0 vs]
theorem wipeE_length : ∀ vs : List Nat, (wipeE ρ vs).length = ρ.length
  | [] => rfl
  | v :: vs => by unfold wipeE; rw [List.length_set, wipeE_length vs]
theorem restE_get (ρ0 : Env) {i : Nat} {s : Sl} : ∀ vs : List Nat, (restE ρ0 ρ vs)[i]? = some s → (i ∈ vs ∧ (s = .no ∨ ∃ d, s = .val d ∧ ρ0[i]? = some (.val d))) ∨ (i ∉ vs ∧ ρ[i]? = some s)
  | [], e => .inr ⟨List.not_mem_nil, e⟩
  | v :: vs, e => by
    unfold restE at e
    rcases getset e with ⟨rfl, z, _⟩ | ⟨z, e'⟩
    · refine .inl ⟨List.mem_cons_self .., ?_⟩
      split at z
      · rename_i d q
        exact .inr ⟨d, z, q⟩
      · exact .inl z
    · rcases restE_get ρ0 vs e' with ⟨h1, h2⟩ | ⟨h1, h2⟩
      · exact .inl ⟨List.mem_cons_of_mem _ h1, h2⟩
      · exact .inr ⟨fun q => by rcases List.mem_cons.mp q with q | q; exact z q.symm; exact h1 q, h2⟩
theorem wipe_out {i : Nat} : ∀ {vs : List Nat}, i ∉ vs → (L2.wipe σ vs)[i]? = σ[i]?
  | [], _ => rfl
  | v :: vs, h => by
    unfold L2.wipe
    rw [List.getElem?_set_ne (fun z => h (by rw [z]; exact List.mem_cons_self ..))]
    exact wipe_out fun z => h (List.mem_cons_of_mem _ z)
theorem R.rest {F' H' : Hp} {ρ' : Env} (h : R K Φ F σ H ρ) (h' : R K Φ F' (L2.wipe σ vs) H' ρ') (s : Same F F') (n : vs.all (notIo ρ) = true) : R K Φ F' σ H' (restE ρ ρ' vs) := by
  refine h'.reslot ?_ (fun i s' e => ?_) fun k a e => ?_
  · have := h'.len
    rw [L2.wipe_length] at this
    rw [restE_length, this]
  · rcases restE_get ρ vs e with ⟨_, rfl | ⟨d, rfl, q⟩⟩ | ⟨h1, h2⟩
    · exact .inl rfl
    · obtain ⟨v, q1, q2⟩ := h.sl i _ q
      exact .inr (.inl ⟨d, v, rfl, q1, q2.mono s⟩)
    · exact .inr (.inr ⟨h2, (wipe_out h1).symm⟩)
  · have z : k ∉ vs := fun z => absurd rfl (h.io_not (List.all_eq_true.mp n _ z) e)
    refine ⟨?_, (wipe_out z).symm⟩
    have hl : k < ρ'.length := by
      obtain ⟨_, _, d, q, _⟩ := h'.io1 k a e
      exact (List.getElem?_eq_some_iff.mp q).1
    have hl2 : k < (restE ρ ρ' vs).length := by rw [restE_length]; exact hl
    rcases restE_get ρ vs (i := k) (List.getElem?_eq_getElem hl2) with ⟨h1, _⟩ | ⟨_, h2⟩
    · exact absurd h1 z
    · rw [h2, List.getElem?_eq_getElem hl2]
/-- an object that is not the def's to change while a part is read -/
def prot (Φ : Fm) (p : Addr) (o : HO) : Fm := ⟨upd Φ.H0 p o, Φ.io, Φ.F0, Φ.inj⟩
theorem R.protect (h : R K Φ F σ H ρ) {p : Addr} {o : HO} (e : H p = some o) (nF : F p = none) (n0 : Φ.H0 p = none) (ap : ∀ (j : Nat) d, ρ[j]? = some (.own d) → σ[j]? ≠ some (some (.ref p))) : R K (prot Φ p o) F σ H ρ := by
  refine ⟨h.len, h.sub, h.sub0, fun b n z => ?_, fun b u q z => ?_, fun b q => ?_, fun i s q => ?_, h.dis, fun k a q => ?_, h.io2⟩
  · by_cases y : b = p
    · subst y; exact nF
    · exact h.new b n (by have : (upd Φ.H0 p o) b ≠ none := z; rw [upd_ne y] at this; exact this)
  · have q : (upd Φ.H0 p o) b = some u := q
    by_cases y : b = p
    · subst y; rw [upd_same] at q; cases q; exact e
    · rw [upd_ne y] at q; exact h.kept b u q z
  · show (upd Φ.H0 p o) b = none
    rw [upd_ne (by rintro rfl; rw [e] at q; cases q)]
    exact h.dom b q
  · have w := h.sl i s q
    cases s with
    | no => trivial
    | val d => exact w
    | own d =>
      obtain ⟨a, w1, w2, w3, w4⟩ := w
      exact ⟨a, w1, w2, by show (upd Φ.H0 p o) a = none; rw [upd_ne (by rintro rfl; exact ap i d q w1)]; exact w3, w4⟩
    | io d => trivial
  · obtain ⟨w1, w2⟩ := h.io1 k a q
    exact ⟨by show (upd Φ.H0 p o) a ≠ none; rw [upd_ne (by rintro rfl; exact w1 n0)]; exact w1, w2⟩
/-- it stands as it was; it may change now -/
theorem R.unprot {p : Addr} {o u : HO} (h : R K (prot Φ p o) F σ H ρ) (n0 : Φ.H0 p = none) (n1 : Φ.F0 p = none) (ni : ∀ k, Φ.io k ≠ some p) :
    H p = some o ∧ F p = none ∧ (∀ (j : Nat) d, ρ[j]? = some (.own d) → σ[j]? ≠ some (some (.ref p))) ∧ R K Φ F σ (upd H p u) ρ := by
  have e : H p = some o := h.kept p o upd_same ni
  have nF : F p = none := h.new p n1 (by show (upd Φ.H0 p o) p ≠ none; rw [upd_same]; exact fun z => by cases z)
  have ap : ∀ (j : Nat) d, ρ[j]? = some (.own d) → σ[j]? ≠ some (some (.ref p)) := fun j d q z => by
    obtain ⟨a, w1, w2, w3, w4⟩ := h.sl j _ q
    rw [z] at w1
    cases w1
    have w3 : (upd Φ.H0 p o) p = none := w3
    rw [upd_same] at w3
    cases w3
  refine ⟨e, nF, ap, h.len, fun b w q => ?_, h.sub0, fun b n z => h.new b n ?_, fun b w q z => ?_, fun b q => ?_, fun i s q => ?_, h.dis, fun k a q => ?_, h.io2⟩
  · rw [upd_ne (ne_of_none q nF)]; exact h.sub _ _ q
  · show (upd Φ.H0 p o) b ≠ none
    rw [upd_ne (by rintro rfl; exact z n0)]; exact z
  · have y : b ≠ p := by rintro rfl; rw [n0] at q; cases q
    rw [upd_ne y]
    exact h.kept b w (by show (upd Φ.H0 p o) b = some w; rw [upd_ne y]; exact q) z
  · by_cases y : b = p
    · subst y; exact n0
    · rw [upd_ne y] at q
      have := h.dom b q
      have this : (upd Φ.H0 p o) b = none := this
      rw [upd_ne y] at this
      exact this
  · have w := h.sl i s q
    cases s with
    | no => trivial
    | val d => exact w
    | own d =>
      obtain ⟨a, w1, w2, w3, w4⟩ := w
      have y : a ≠ p := by rintro rfl; exact ap i d q w1
      have w3 : (upd Φ.H0 p o) a = none := w3
      rw [upd_ne y] at w3
      exact ⟨a, w1, w2, w3, w4.mono (Same.refl _) fun _ q => by rw [upd_ne y]; exact q⟩
    | io d => trivial
  · obtain ⟨w1, w2, d, w3, w4, w5⟩ := h.io1 k a q
    have y : a ≠ p := by rintro rfl; exact ni k q
    have w1 : (upd Φ.H0 p o) a ≠ none := w1
    rw [upd_ne y] at w1
    exact ⟨w1, w2, d, w3, w4, w5.mono (Same.refl _) fun _ q => by rw [upd_ne y]; exact q⟩
/-- the heap grows, and an own object (or the io object) changes -/
theorem R.growMu (h : R K Φ F σ H ρ) {F' H' : Hp} {j : Nat} {a : Addr} {d d' : D} (sF : Same F F') (sub : Same F' H') (new : ∀ b, F b = none → H b ≠ none → F' b = none) (kept : ∀ b o, H b = some o → b ≠ a → H' b = some o)
    (em : Mi.mu ρ j = some d) (ea : σ[j]? = some (some (.ref a))) (r : OwnS K F' H' a d') : R K Φ F' σ H' (Mi.putMu ρ j d') := by
  obtain ⟨a0, e0, nF, ow⟩ := h.mu em
  rw [ea] at e0
  cases e0
  obtain ⟨u, eu⟩ := ow.ex
  obtain ⟨o, eo⟩ := r.ex
  have nF' : F' a = none := new a nF (by rw [eu]; exact fun z => by cases z)
  have h2 : R K Φ F' σ (upd H' a u) ρ := by
    refine h.grow sF (fun b w q => ?_) new fun b w q => ?_
    · rw [upd_ne (ne_of_none q nF')]; exact sub _ _ q
    · by_cases y : b = a
      · subst y; rw [upd_same]; rw [eu] at q; exact q
      · rw [upd_ne y]; exact kept b w q y
  have e2 : upd (upd H' a u) a o = H' := by
    rw [upd_upd]
    funext b
    by_cases y : b = a
    · subst y; rw [upd_same, eo]
    · rw [upd_ne y]
  have := h2.putMu (o := o) (d' := d') em ea (by rw [e2]; exact r)
  rw [e2] at this
  exact this
end
/-! ### statements -/
inductive Out where
  | nx (ρ : Env)
  | rt (d : D) (ρ : Env)
  | bk (ρ : Env)
  | ct (ρ : Env)
  | exc (c : Str) (d : D) (ρ : Env)
  | stuck
abbrev MS := Env → Out
def Res.out {α : Type} : Res α → (α → Out) → Out
  | .ok a, f => f a
  | .exc c d ρ, _ => .exc c d ρ
  | .stuck, _ => .stuck
section
variable (K : PySem.W.Frag) (Φ : Fm) (F : Hp) (De : Ends) (W : WXm)
def GoodS : Out → Prop
  | .nx ρ => ∀ σ' F' H', R K Φ F' σ' H' ρ → Same F F' → De.nx σ' H'
  | .rt d ρ => ∀ σ' v F' H', R K Φ F' σ' H' ρ → Same F F' → Rp K F' v d → De.rt v H'
  | .bk ρ => ∀ σ' F' H', R K Φ F' σ' H' ρ → Same F F' → De.bk σ' H'
  | .ct ρ => ∀ σ' F' H', R K Φ F' σ' H' ρ → Same F F' → De.ct σ' H'
  | .exc c d ρ => up F W c d ρ
  | .stuck => False
end
section
variable {K : PySem.W.Frag} {mg : Str → Option Value} {E : L2.St → XK} {ta tb tc te : TE} {t u : TT} {tr : TA} {ma mb mc m : ME} {mt mu' : MT} {ms : List ME} {s1 s2 : TS} {m1 m2 : MS}
theorem GoodS.weak {Φ : Fm} {F F' : Hp} {De : Ends} {W : WXm} {o : Out} (s : Same F F') (h : GoodS K Φ F De W o) : GoodS K Φ F' De W o := by
  cases o with
  | nx ρ => exact fun σ' F2 H' r q => h σ' F2 H' r (s.trans q)
  | rt d ρ => exact fun σ' v F2 H' r q => h σ' v F2 H' r (s.trans q)
  | bk ρ => exact fun σ' F2 H' r q => h σ' F2 H' r (s.trans q)
  | ct ρ => exact fun σ' F2 H' r q => h σ' F2 H' r (s.trans q)
  | exc c d ρ => exact fun F2 q => h F2 (s.trans q)
  | stuck => exact h
theorem GoodS.out {α : Type} {Φ : Fm} {F : Hp} {De : Ends} {W : WXm} {r : Res α} {f : α → Out} (h : GoodS K Φ F De W (r.out f)) : Good r (fun a => GoodS K Φ F De W (f a)) (up F W) := by
  cases r <;> exact h
def ShS (K : PySem.W.Frag) (mg : Str → Option Value) (E : L2.St → XK) (t : TS) (m : MS) : Prop := ∀ (Φ : Fm) (F : Hp) (σ : L2.St) (H : Hp) (ρ : Env) (De : Ends) (W : WXm), R K Φ F σ H ρ → XW K mg Φ E W → GoodS K Φ F De W (m ρ) → t De σ H
def mNext : MS := .nx
theorem shs_next : ShS K mg E tNext mNext := fun Φ F σ H ρ De W r x g => g σ F H r (Same.refl _)
def mSeq (a b : MS) : MS := fun ρ => match a ρ with
  | .nx ρ' => b ρ'
  | o => o
theorem shs_seq (h1 : ShS K mg E s1 m1) (h2 : ShS K mg E s2 m2) : ShS K mg E (tSeq s1 s2) (mSeq m1 m2) := by
  intro Φ F σ H ρ De W r x g
  refine h1 Φ F σ H ρ { De with nx := s2 De } W r x ?_
  unfold mSeq at g
  cases e : m1 ρ with
  | nx ρ' =>
    rw [e] at g
    exact fun σ' F' H' r' s => h2 Φ F' σ' H' ρ' De W r' x (GoodS.weak s g)
  | _ => rw [e] at g; exact g
def mDrop (m : ME) : MS := fun ρ => (m ρ).out fun p => .nx p.2
theorem shs_drop (h : ShE K mg E te m) : ShS K mg E (tDrop te) (mDrop m) := by
  intro Φ F σ H ρ De W r x g
  refine h Φ F σ H ρ _ W r x ((GoodS.out (r := m ρ) g).mono (fun p gp v F1 H1 r1 s1 rv => gp σ F1 H1 r1 s1) fun _ _ _ w => w)
def mRet (m : ME) : MS := fun ρ => (m ρ).out fun p => .rt p.1 p.2
theorem shs_ret (h : ShE K mg E te m) : ShS K mg E (tRet te) (mRet m) := by
  intro Φ F σ H ρ De W r x g
  refine h Φ F σ H ρ _ W r x ((GoodS.out (r := m ρ) g).mono (fun p gp v F1 H1 r1 s1 rv => gp σ v F1 H1 r1 s1 rv) fun _ _ _ w => w)
def mRetN : MS := fun ρ => .rt .none ρ
theorem shs_retN : ShS K mg E tRetN mRetN := fun Φ F σ H ρ De W r x g => g σ .non F H r (Same.refl _) .non
def mBrk : MS := .bk
theorem shs_brk : ShS K mg E tBreak mBrk := fun Φ F σ H ρ De W r x g => g σ F H r (Same.refl _)
def mCnt : MS := .ct
theorem shs_cnt : ShS K mg E tCont mCnt := fun Φ F σ H ρ De W r x g => g σ F H r (Same.refl _)
def mIfS (c : MT) (a b : MS) : MS := fun ρ => (c ρ).out fun p => if p.1 = true then a p.2 else b p.2
theorem shs_if (h0 : ShT K mg E t mt) (h1 : ShS K mg E s1 m1) (h2 : ShS K mg E s2 m2) : ShS K mg E (tIfS t s1 s2) (mIfS mt m1 m2) := by
  intro Φ F σ H ρ De W r x g
  refine h0 Φ F σ H ρ _ W r x ((GoodS.out (r := mt ρ) g).mono (fun p gp F1 H1 r1 s1 => ?_) fun _ _ _ w => w)
  by_cases c : p.1 = true
  · rw [if_pos c] at gp ⊢
    exact h1 Φ F1 σ H1 p.2 De W r1 x (gp.weak s1)
  · rw [if_neg c] at gp ⊢
    exact h2 Φ F1 σ H1 p.2 De W r1 x (gp.weak s1)
/-! targets -/
abbrev MG := D → Env → Option Env
abbrev MGs := List D → Env → Option Env
def Tch (ts : List Nat) (σ σ' : L2.St) : Prop := σ'.length = σ.length ∧ ∀ i, i ∉ ts → σ'[i]? = σ[i]?
def ShG (K : PySem.W.Frag) (g : TG) (tg : MG) (ts : List Nat) : Prop := ∀ (Φ : Fm) (F : Hp) (σ : L2.St) (H : Hp) (ρ ρ' : Env) (v : V) (d : D) (N : L2.St → Hp → Prop), R K Φ F σ H ρ → Rp K F v d → tg d ρ = some ρ' → (∀ σ', R K Φ F σ' H ρ' → Tch ts σ σ' → N σ' H) → g v σ H N
def ShGs (K : PySem.W.Frag) (g : TGs) (tg : MGs) (ts : List Nat) : Prop := ∀ (Φ : Fm) (F : Hp) (σ : L2.St) (H : Hp) (ρ ρ' : Env) (vs : List V) (ds : List D) (N : L2.St → Hp → Prop), R K Φ F σ H ρ → RpA K F vs ds → tg ds ρ = some ρ' → (∀ σ', R K Φ F σ' H ρ' → Tch ts σ σ' → N σ' H) → g vs σ H N
def gN (i : Nat) : MG := fun d ρ => if notIo ρ i = true then some (ρ.set i (.val d)) else none
theorem shg_name (i : Nat) : ShG K (gName i) (gN i) [i] := by
  intro Φ F σ H ρ ρ' v d N r rv e q
  unfold gN at e
  split at e
  · cases e; exact q _ (r.set (by assumption) rv) ⟨List.length_set, fun j hj => List.getElem?_set_ne (fun z => hj (by rw [z]; exact List.mem_cons_self ..))⟩
  · cases e
def gNils : MGs := fun ds ρ => match ds with
  | [] => some ρ
  | _ => none
theorem shgs_nil : ShGs K gNil gNils [] := by
  intro Φ F σ H ρ ρ' vs ds N r rv e q
  cases rv with
  | nil => cases e; exact ⟨rfl, q σ r ⟨rfl, fun _ _ => rfl⟩⟩
  | cons _ _ => cases e
def gConss (g : MG) (gs : MGs) : MGs := fun ds ρ => match ds with
  | d :: ds => (g d ρ).bind (gs ds)
  | [] => none
theorem shgs_cons {g : TG} {gs : TGs} {tg : MG} {tgs : MGs} {ts us : List Nat} (h : ShG K g tg ts) (hs : ShGs K gs tgs us) : ShGs K (gCons g gs) (gConss tg tgs) (ts ++ us) := by
  intro Φ F σ H ρ ρ' vs ds N r rv e q
  cases rv with
  | nil => cases e
  | cons h1 h2 =>
    rename_i d ds
    have e : (tg d ρ).bind (tgs ds) = some ρ' := e
    cases z : tg d ρ with
    | none => rw [z] at e; cases e
    | some ρ1 =>
      rw [z] at e
      exact ⟨_, _, rfl, h Φ F σ H ρ ρ1 _ d _ r h1 z fun σ' r' t' => hs Φ F σ' H ρ1 ρ' _ ds N r' h2 e fun σ2 r2 t2 => q σ2 r2 ⟨t2.1.trans t'.1, fun i hi => by
        rw [t2.2 i fun w => hi (List.mem_append_right _ w), t'.2 i fun w => hi (List.mem_append_left _ w)]⟩⟩
def gT (n : Nat) (gs : MGs) : MG := fun d ρ => match d with
  | .tuple ds => if ds.length = n then gs ds ρ else none
  | _ => none
theorem shg_tup {n : Nat} {gs : TGs} {tgs : MGs} {ts : List Nat} (hs : ShGs K gs tgs ts) : ShG K (gTup K n gs) (gT n tgs) ts := by
  intro Φ F σ H ρ ρ' v d N r rv e q
  cases rv <;> try (cases e; done)
  rename_i a xs ds h1 h2
  have e : (if ds.length = n then tgs ds ρ else none) = some ρ' := e
  split at e
  · exact ⟨a, xs, rfl, r.sub.seqT h1, by rw [h2.length]; assumption, hs Φ F σ H ρ ρ' _ ds N r h2 e q⟩
  · cases e
theorem wipe_eq {σ σ' : L2.St} : ∀ {vs ts : List Nat}, (∀ i ∈ ts, i ∈ vs) → Tch ts σ σ' → L2.wipe σ' vs = L2.wipe σ vs := by
  intro vs ts sub t
  have key : ∀ (ws : List Nat), (∀ i, i ∉ ws → σ'[i]? = σ[i]?) → L2.wipe σ' ws = L2.wipe σ ws := by
    intro ws hw
    apply List.ext_getElem?
    intro i
    by_cases hi : i ∈ ws
    · have one : ∀ (s : L2.St) (us : List Nat), i ∈ us → (L2.wipe s us)[i]? = if i < s.length then some none else none := by
        intro s us
        induction us with
        | nil => intro z; cases z
        | cons u us ih =>
          intro z
          unfold L2.wipe
          by_cases y : u = i
          · subst y
            by_cases l : u < s.length
            · rw [List.getElem?_set_self (by rw [L2.wipe_length]; exact l), if_pos l]
            · rw [List.getElem?_eq_none (by rw [List.length_set, L2.wipe_length]; omega), if_neg l]
          · rw [List.getElem?_set_ne y]
            rcases List.mem_cons.mp z with z | z
            · exact absurd z.symm y
            · exact ih z
      rw [one _ _ hi, one _ _ hi, t.1]
    · rw [wipe_out hi, wipe_out hi, hw i hi]
  exact key vs fun i hi => t.2 i fun z => hi (sub i z)
theorem wipe_wipe {σ : L2.St} {vs : List Nat} : L2.wipe (L2.wipe σ vs) vs = L2.wipe σ vs :=
  wipe_eq (ts := vs) (fun _ h => h) ⟨L2.wipe_length _ _, fun i hi => wipe_out hi⟩
def oOut (o : Option Env) (f : Env → Out) : Out := match o with
  | some ρ => f ρ
  | none => .stuck
def mAsg (tg : MG) (m : ME) : MS := fun ρ => (m ρ).out fun p => oOut (tg p.1 p.2) .nx
theorem shs_asg {g : TG} {tg : MG} {ts : List Nat} (hg : ShG K g tg ts) (h : ShE K mg E te m) : ShS K mg E (tAsg te g) (mAsg tg m) := by
  intro Φ F σ H ρ De W r x gg
  refine h Φ F σ H ρ _ W r x ((GoodS.out (r := m ρ) gg).mono (fun p gp v F1 H1 r1 s1 rv => ?_) fun _ _ _ w => w)
  cases e : tg p.1 p.2 with
  | none => rw [e] at gp; exact gp.elim
  | some ρ' => rw [e] at gp; exact hg Φ F1 σ H1 p.2 ρ' v p.1 _ r1 rv e fun σ' r' _ => gp σ' F1 H1 r' s1
abbrev mSet (i : Nat) (m : ME) : MS := mAsg (gN i) m
/-- x = a new object that x keeps for its own -/
def mSetO (i : Nat) (m : ME) : MS := fun ρ => (m ρ).out fun p => if notIo p.2 i = true then .nx (p.2.set i (.own p.1)) else .stuck
theorem shs_setO {i : Nat} (h : ShF K mg E te m) : ShS K mg E (tAsg te (gName i)) (mSetO i m) := by
  intro Φ F σ H ρ De W r x gg
  refine h Φ F σ H ρ _ W r x ((GoodS.out (r := m ρ) gg).mono (fun p gp a F1 H1 r1 s1 nF n0 ap ow => ?_) fun _ _ _ w => w)
  split at gp
  · exact gp _ F1 H1 (r1.setO (by assumption) nF n0 ap ow.s) s1
  · exact gp.elim
/-! augmented -/
def mAug (i : Nat) (f : D → D → Option D) (m : ME) : MS := fun ρ => match ρ[i]? with
  | some (.val d0) => (m ρ).out fun p => match f d0 p.1 with
    | some d => if notIo p.2 i = true then .nx (p.2.set i (.val d)) else .stuck
    | none => .stuck
  | _ => .stuck
theorem shs_aug {i : Nat} {r : R2} {f : D → D → Option D} (ho : OpS K r f) (h : ShE K mg E te m) : ShS K mg E (tAug i te r) (mAug i f m) := by
  intro Φ F σ H ρ De W rr x gg
  unfold mAug at gg
  cases e : ρ[i]? with
  | none => rw [e] at gg; exact gg.elim
  | some s =>
    rw [e] at gg
    cases s with
    | no => exact gg.elim
    | own d => exact gg.elim
    | io d => exact gg.elim
    | val d0 =>
      obtain ⟨v0, e1, e2⟩ := rr.sl i _ e
      refine ⟨v0, e1, h Φ F σ H ρ _ W rr x ((GoodS.out (r := m ρ) gg).mono (fun p gp v F1 H1 r1 s1 rv => ?_) fun _ _ _ w => w)⟩
      cases z : f d0 p.1 with
      | none => simp only [z] at gp; exact gp.elim
      | some d =>
        simp only [z] at gp
        split at gp
        · exact ho F1 H1 v0 v d0 p.1 d _ r1.sub (e2.mono s1) rv z fun w rw' => gp _ F1 H1 (r1.set (by assumption) rw') s1
        · exact gp.elim
theorem ip_addS : OpS K (ipI fun i j => i + j) fAdd := by
  intro F H x y dx dy d Q _ rx ry e q
  unfold fAdd f2 at e
  split at e
  · cases rx; cases ry; cases e; exact ⟨_, _, rfl, rfl, q _ (.int _)⟩
  · cases e
/-! loops -/
def Yl (F H H' : Hp) (F2 : Hp) : Prop := (F2 = F ∧ H' = H) ∨ ∃ p o, H p = none ∧ F2 = upd F p o ∧ H' = upd H p o
def Walks (K : PySem.W.Frag) (J : It) (F : Hp) (ds : List D) : Prop := ∀ (F1 H : Hp), Same F F1 → Same F1 H → ∀ i : Nat,
  (∀ d, ds[i]? = some d → J.go i H ∧ ∀ x H', J.yld i H x H' → ∃ F2, Yl F1 H H' F2 ∧ Rp K F2 x d) ∧ (ds[i]? = none → J.stop i H)
def ShI (K : PySem.W.Frag) (mg : Str → Option Value) (E : L2.St → XK) (wi : TI) (it : MA) : Prop := ∀ (Φ : Fm) (F : Hp) (σ : L2.St) (H : Hp) (ρ : Env) (Rr : It → Hp → Prop) (W : WXm), R K Φ F σ H ρ → XW K mg Φ E W →
  Good (it ρ) (fun p => ∀ J F' H', R K Φ F' σ H' p.2 → Same F F' → Walks K J F' p.1 → Rr J H') (up F W) → wi σ H Rr
theorem R.yl {Φ : Fm} {F H H' F2 : Hp} {σ : L2.St} {ρ : Env} (r : R K Φ F σ H ρ) (y : Yl F H H' F2) : R K Φ F2 σ H' ρ ∧ Same F F2 := by
  rcases y with ⟨rfl, rfl⟩ | ⟨p, o, np, rfl, rfl⟩
  · exact ⟨r, Same.refl _⟩
  · exact r.alloc np
def mForL (tg : MG) (b : MS) : List D → Env → Out
  | [], ρ => .nx ρ
  | x :: xs, ρ => oOut (tg x ρ) fun ρ1 => match b ρ1 with
    | .nx ρ2 => mForL tg b xs ρ2
    | .ct ρ2 => mForL tg b xs ρ2
    | .bk ρ2 => .nx ρ2
    | o => o
def mFor (it : MA) (tg : MG) (b : MS) : MS := fun ρ => (it ρ).out fun p => mForL tg b p.1 p.2
theorem drop_get {α : Type} {xs : List α} {i : Nat} {x : α} (h : xs[i]? = some x) : xs.drop i = x :: xs.drop (i + 1) := by
  obtain ⟨h1, h2⟩ := List.getElem?_eq_some_iff.mp h
  rw [List.drop_eq_getElem_cons h1, h2]
theorem shs_for {wi : TI} {g : TG} {it : MA} {tg : MG} {ts : List Nat} (hi : ShI K mg E wi it) (hg : ShG K g tg ts) (hb : ShS K mg E s1 m1) : ShS K mg E (tFor wi g s1) (mFor it tg m1) := by
  intro Φ F σ H ρ De W r x gg
  refine hi Φ F σ H ρ _ W r x ((GoodS.out (r := it ρ) gg).mono (fun p gp J F1 H1 r1 s1 wk => ?_) fun _ _ _ w => w)
  refine ⟨fun i n σ H => ∃ F' ρ', R K Φ F' σ H ρ' ∧ Same F1 F' ∧ n = p.1.length - i ∧ GoodS K Φ F' De W (mForL tg m1 (p.1.drop i) ρ'), ⟨_, F1, p.2, r1, Same.refl _, rfl, gp.weak s1⟩, ?_⟩
  rintro i n σ H ⟨F', ρ', r', s', hn, g'⟩
  obtain ⟨w1, w2⟩ := wk F' H s' r'.sub i
  cases e : p.1[i]? with
  | none =>
    refine .inl ⟨w2 e, ?_⟩
    rw [List.drop_eq_nil_of_le (List.getElem?_eq_none_iff.mp e)] at g'
    exact g' σ F' H r' (Same.refl _)
  | some d =>
    obtain ⟨go, yld⟩ := w1 d e
    have hlt : i < p.1.length := (List.getElem?_eq_some_iff.mp e).1
    rw [drop_get e] at g'
    unfold mForL at g'
    cases z : tg d ρ' with
    | none => rw [z] at g'; exact g'.elim
    | some ρ2 =>
      rw [z] at g'
      refine .inr ⟨go, fun σ' H' => ∃ F2 ρ3, R K Φ F2 σ' H' ρ3 ∧ Same F1 F2 ∧ GoodS K Φ F2 De W (mForL tg m1 (p.1.drop (i + 1)) ρ3), fun σ' H' ⟨F2, ρ3, q1, q2, q3⟩ => ⟨_, by subst hn; omega, F2, ρ3, q1, q2, rfl, q3⟩, fun v H' y => ?_⟩
      obtain ⟨F2, yl, rv⟩ := yld v H' y
      obtain ⟨r2, s2⟩ := r'.yl yl
      refine hg Φ F2 σ H' ρ' ρ2 v d _ r2 rv z fun σ' r3 _ => ?_
      have g2 : GoodS K Φ F2 De W (match m1 ρ2 with | .nx ρ2 => mForL tg m1 (p.1.drop (i + 1)) ρ2 | .ct ρ2 => mForL tg m1 (p.1.drop (i + 1)) ρ2 | .bk ρ2 => .nx ρ2 | o => o) := GoodS.weak s2 g'
      refine hb Φ F2 σ' H' ρ2 _ W r3 x ?_
      cases eb : m1 ρ2 with
      | nx ρ4 => rw [eb] at g2; exact fun σ4 F4 H4 r4 s4 => ⟨F4, ρ4, r4, (s'.trans s2).trans s4, g2.weak s4⟩
      | ct ρ4 => rw [eb] at g2; exact fun σ4 F4 H4 r4 s4 => ⟨F4, ρ4, r4, (s'.trans s2).trans s4, g2.weak s4⟩
      | bk ρ4 => rw [eb] at g2; exact fun σ4 F4 H4 r4 s4 => g2 σ4 F4 H4 r4 s4
      | rt d ρ4 => rw [eb] at g2; exact g2
      | exc c d ρ4 => rw [eb] at g2; exact g2
      | stuck => rw [eb] at g2; exact g2
/-- while, at most n turns -/
def mWhile (c : MT) (b : MS) : Nat → MS
  | 0 => fun _ => .stuck
  | n + 1 => fun ρ => (c ρ).out fun p => if p.1 = true then (match b p.2 with
    | .nx ρ2 => mWhile c b n ρ2
    | .ct ρ2 => mWhile c b n ρ2
    | .bk ρ2 => .nx ρ2
    | o => o) else .nx p.2
theorem shs_while (n : Env → Nat) (hc : ShT K mg E t mt) (hb : ShS K mg E s1 m1) : ShS K mg E (tWhile t s1) (fun ρ => mWhile mt m1 (n ρ) ρ) := by
  intro Φ F σ H ρ De W r x gg
  refine ⟨fun k σ H => ∃ F' ρ', R K Φ F' σ H ρ' ∧ GoodS K Φ F' De W (mWhile mt m1 k ρ'), ⟨n ρ, F, ρ, r, gg⟩, ?_⟩
  rintro k σ H ⟨F', ρ', r', g'⟩
  cases k with
  | zero => exact g'.elim
  | succ k =>
    refine hc Φ F' σ H ρ' _ W r' x ((GoodS.out (r := mt ρ') g').mono (fun p gp F1 H1 r1 s1 => ?_) fun _ _ _ w => w)
    by_cases c : p.1 = true
    · rw [if_pos c] at gp ⊢
      refine ⟨fun σ' H' => ∃ F2 ρ3, R K Φ F2 σ' H' ρ3 ∧ GoodS K Φ F2 De W (mWhile mt m1 k ρ3), fun σ' H' ⟨F2, ρ3, q1, q2⟩ => ⟨k, by omega, F2, ρ3, q1, q2⟩, ?_⟩
      have gp := gp.weak s1
      refine hb Φ F1 σ H1 p.2 _ W r1 x ?_
      cases eb : m1 p.2 with
      | nx ρ4 => rw [eb] at gp; exact fun σ4 F4 H4 r4 s4 => ⟨F4, ρ4, r4, gp.weak s4⟩
      | ct ρ4 => rw [eb] at gp; exact fun σ4 F4 H4 r4 s4 => ⟨F4, ρ4, r4, gp.weak s4⟩
      | bk ρ4 => rw [eb] at gp; exact fun σ4 F4 H4 r4 s4 => gp σ4 F4 H4 r4 s4
      | rt d ρ4 => rw [eb] at gp; exact gp
      | exc c d ρ4 => rw [eb] at gp; exact gp
      | stuck => rw [eb] at gp; exact gp
    · rw [if_neg c] at gp ⊢
      exact gp σ F1 H1 r1 s1
/-! what is walked -/
def itL (m : ME) : MA := fun ρ => (m ρ).bind fun p => match p.1 with
  | .list ds => .ok (ds, p.2)
  | .dict [(.none, .list ds)] => .ok (ds, p.2)
  | _ => .stuck
theorem walks_list {F : Hp} {a : Addr} {xs : List V} {ds : List D} (h1 : SqL K F a xs) (h2 : RpA K F xs ds) : Walks K (Itl K a) F ds := fun F2 H2 sa sb i => ⟨fun d e => by
  obtain ⟨y, e1, e2⟩ := h2.get' e
  refine ⟨⟨xs, y, sb.seq (sa.seq h1), e1⟩, fun z H' q => ⟨F2, .inl ⟨rfl, q.1⟩, ?_⟩⟩
  have e3 := q.2 xs (sb.seq (sa.seq h1))
  rw [e1] at e3
  cases e3
  exact e2.mono sa, fun e => ⟨xs, sb.seq (sa.seq h1), by rw [h2.length]; exact List.getElem?_eq_none_iff.mp e⟩⟩
theorem shi_list (h : ShE K mg E te m) : ShI K mg E (iList K te) (itL m) := by
  intro Φ F σ H ρ Rr W r x g
  have g1 := Good.bind (r := m ρ) g
  refine h Φ F σ H ρ _ W r x (g1.mono (fun p gp v F1 H1 r1 s1 rv => ?_) fun _ _ _ w => w)
  obtain ⟨d, ρ'⟩ := p
  cases rv <;> try (exact False.elim gp)
  · rename_i a xs ds h1 h2
    exact ⟨a, rfl, ⟨xs, SqL.of (r1.sub _ _ h1)⟩, gp _ F1 H1 r1 s1 (walks_list (SqL.of h1) h2)⟩
  · rename_i a xs ds h1 h2
    exact ⟨a, rfl, ⟨xs, r1.sub.seq h1⟩, gp _ F1 H1 r1 s1 (walks_list h1 h2)⟩
  · rename_i a xs ds h1 h2
    dsimp only at gp
    cases h2 with
    | nil => exact False.elim gp
    | @cons k v vs d ds q1 q2 => cases k <;> exact False.elim gp
def itT (m : ME) : MA := fun ρ => (m ρ).bind fun p => match p.1 with
  | .tuple ds => .ok (ds, p.2)
  | _ => .stuck
theorem shi_tup (h : ShE K mg E te m) : ShI K mg E (iTup K te) (itT m) := by
  intro Φ F σ H ρ Rr W r x g
  have g1 := Good.bind (r := m ρ) g
  refine h Φ F σ H ρ _ W r x (g1.mono (fun p gp v F1 H1 r1 s1 rv => ?_) fun _ _ _ w => w)
  obtain ⟨d, ρ'⟩ := p
  cases rv <;> try (exact False.elim gp)
  rename_i a xs ds h1 h2
  refine ⟨a, rfl, ⟨xs, r1.sub.seqT h1⟩, gp _ F1 H1 r1 s1 fun F2 H2 sa sb i => ⟨fun d e => ?_, fun e => ⟨xs, sb.seqT (sa.seqT h1), by rw [h2.length]; exact List.getElem?_eq_none_iff.mp e⟩⟩⟩
  obtain ⟨y, e1, e2⟩ := h2.get' e
  refine ⟨⟨xs, y, sb.seqT (sa.seqT h1), e1⟩, fun z H' q => ⟨F2, .inl ⟨rfl, q.1⟩, ?_⟩⟩
  have e3 := q.2 xs (sb.seqT (sa.seqT h1))
  rw [e1] at e3
  cases e3
  exact e2.mono sa
def rngD (lo : Int) (n : Nat) : List D := (List.range n).map fun (i : Nat) => PyData.int (lo + (i : Int))
theorem rngD_get {lo : Int} {n i : Nat} {d : D} (e : (rngD lo n)[i]? = some d) : i < n ∧ d = .int (lo + i) := by
  unfold rngD at e
  rw [List.getElem?_map] at e
  by_cases h : i < n
  · rw [List.getElem?_range h] at e
    cases e
    exact ⟨h, rfl⟩
  · rw [List.getElem?_eq_none (by rw [List.length_range]; omega)] at e
    cases e
theorem walks_rng (lo : Int) (n : Nat) (F : Hp) : Walks K (Itr lo n) F (rngD lo n) := fun F1 H _ _ i => by
  refine ⟨fun d e => ?_, fun e => ?_⟩
  · obtain ⟨h, rfl⟩ := rngD_get e
    exact ⟨h, fun x H' q => ⟨F1, .inl ⟨rfl, q.1⟩, by rw [q.2]; exact .int _⟩⟩
  · have := List.getElem?_eq_none_iff.mp e
    unfold rngD at this
    rw [List.length_map, List.length_range] at this
    exact this
def rOk (i : Int) : Bool := decide (-4611686018427387904 ≤ i) && decide (i < 4611686018427387904)
def itR1 (ms : List ME) : MA := fun ρ => (mA ms ρ).bind fun p => match p.1 with
  | [.int n] => if rOk n = true then .ok (rngD 0 n.toNat, p.2) else .stuck
  | _ => .stuck
theorem rOk_ok {i : Int} (h : rOk i = true) : -(2 ^ 62) ≤ i ∧ i < 2 ^ 62 := by
  unfold rOk at h
  simp only [Bool.and_eq_true, decide_eq_true_eq] at h
  omega
theorem shi_rng1 (h : ShA K mg E tr ms) : ShI K mg E (iRng1 tr) (itR1 ms) := by
  intro Φ F σ H ρ Rr W r x g
  have g1 := Good.bind (r := mA ms ρ) g
  refine h Φ F σ H ρ _ W r x (g1.mono (fun p gp vs F1 H1 r1 s1 rv el => ?_) fun _ _ _ w => w)
  obtain ⟨ds, ρ'⟩ := p
  dsimp only at gp rv r1
  split at gp
  · rename_i n
    obtain ⟨v, rfl, hv⟩ := one_rp rv
    cases hv
    split at gp
    · rename_i hn
      exact ⟨n, rfl, (rOk_ok hn).1, (rOk_ok hn).2, gp _ F1 H1 r1 s1 (walks_rng 0 _ _)⟩
    · exact gp.elim
  · exact gp.elim
def itR2 (ms : List ME) : MA := fun ρ => (mA ms ρ).bind fun p => match p.1 with
  | [.int i, .int n] => if (rOk i && rOk n) = true then .ok (rngD i (n - i).toNat, p.2) else .stuck
  | _ => .stuck
theorem shi_rng2 (h : ShA K mg E tr ms) : ShI K mg E (iRng2 tr) (itR2 ms) := by
  intro Φ F σ H ρ Rr W r x g
  have g1 := Good.bind (r := mA ms ρ) g
  refine h Φ F σ H ρ _ W r x (g1.mono (fun p gp vs F1 H1 r1 s1 rv el => ?_) fun _ _ _ w => w)
  obtain ⟨ds, ρ'⟩ := p
  dsimp only at gp rv r1
  split at gp
  · rename_i i n
    obtain ⟨v, w, rfl, hv, hw⟩ := two_rp rv
    cases hv
    cases hw
    split at gp
    · rename_i hn
      rw [Bool.and_eq_true] at hn
      exact ⟨i, n, rfl, ⟨(rOk_ok hn.1).1, (rOk_ok hn.1).2, (rOk_ok hn.2).1, (rOk_ok hn.2).2⟩, gp _ F1 H1 r1 s1 (walks_rng i _ _)⟩
    · exact gp.elim
  · exact gp.elim
def zipD : List D → List D → List D
  | x :: xs, y :: ys => .tuple [x, y] :: zipD xs ys
  | _, _ => []
theorem zipD_get : ∀ {xs ys : List D} {i : Nat} {d : D}, (zipD xs ys)[i]? = some d → ∃ x y, xs[i]? = some x ∧ ys[i]? = some y ∧ d = .tuple [x, y]
  | [], _, _, _, e => by simp [zipD] at e
  | _ :: _, [], _, _, e => by simp [zipD] at e
  | x :: xs, y :: ys, 0, d, e => by simp [zipD] at e; exact ⟨x, y, rfl, rfl, e.symm⟩
  | x :: xs, y :: ys, i + 1, d, e => by simpa using zipD_get (xs := xs) (ys := ys) (i := i) (by simpa [zipD] using e)
theorem zipD_none : ∀ {xs ys : List D} {i : Nat}, (zipD xs ys)[i]? = none → xs.length ≤ i ∨ ys.length ≤ i
  | [], _, _, e => .inl (by simp)
  | _ :: _, [], _, e => .inr (by simp)
  | x :: xs, y :: ys, 0, e => by simp [zipD] at e
  | x :: xs, y :: ys, i + 1, e => by
    have := zipD_none (xs := xs) (ys := ys) (i := i) (by simpa [zipD] using e)
    simp only [List.length_cons]
    omega
def itZ (ms : List ME) : MA := fun ρ => (mA ms ρ).bind fun p => match p.1 with
  | [.list xs, .list ys] => .ok (zipD xs ys, p.2)
  | [.tuple xs, .tuple ys] => .ok (zipD xs ys, p.2)
  | _ => .stuck
theorem walks_zip {F : Hp} {a b : Addr} {xs ys : List V} {ds es : List D} (h1 : SqL K F a xs) (h2 : SqL K F b ys) (r1 : RpA K F xs ds) (r2 : RpA K F ys es) : Walks K (Itz K a b) F (zipD ds es) := fun F1 H sa sb i => by
  refine ⟨fun d e => ?_, fun e => ?_⟩
  · obtain ⟨x, y, e1, e2, rfl⟩ := zipD_get e
    obtain ⟨v, q1, q2⟩ := r1.get' e1
    obtain ⟨w, q3, q4⟩ := r2.get' e2
    refine ⟨⟨xs, ys, v, w, sb.seq (sa.seq h1), sb.seq (sa.seq h2), q1, q3⟩, fun z H' q => ?_⟩
    obtain ⟨T, x', y', rfl, nT, rfl, g1, g2⟩ := q
    have e3 := g1 xs (sb.seq (sa.seq h1))
    have e4 := g2 ys (sb.seq (sa.seq h2))
    rw [q1] at e3
    rw [q3] at e4
    cases e3
    cases e4
    have sT : Same F1 (upd F1 T (.tup [v, w])) := sub_upd (sb.free nT)
    exact ⟨_, .inr ⟨T, _, nT, rfl, rfl⟩, .tup (SqT.of upd_same) (.cons (q2.mono (sa.trans sT)) (.cons (q4.mono (sa.trans sT)) .nil))⟩
  · refine ⟨xs, ys, sb.seq (sa.seq h1), sb.seq (sa.seq h2), ?_⟩
    rw [r1.length, r2.length]
    exact zipD_none e
theorem shi_zip (h : ShA K mg E tr ms) : ShI K mg E (iZip K tr) (fun ρ => (mA ms ρ).bind fun p => match p.1 with
    | [.list xs, .list ys] => .ok (zipD xs ys, p.2)
    | _ => .stuck) := by
  intro Φ F σ H ρ Rr W r x g
  have g1 := Good.bind (r := mA ms ρ) g
  refine h Φ F σ H ρ _ W r x (g1.mono (fun p gp vs F1 H1 r1 s1 rv el => ?_) fun _ _ _ w => w)
  obtain ⟨ds, ρ'⟩ := p
  dsimp only at gp rv r1
  split at gp
  · obtain ⟨v, w, rfl, hv, hw⟩ := two_rp rv
    cases hv with
    | lst h1 h2 =>
      cases hw with
      | lst h3 h4 => exact ⟨_, _, _, _, rfl, SqL.of (r1.sub _ _ h1), SqL.of (r1.sub _ _ h3), gp _ F1 H1 r1 s1 (walks_zip (SqL.of h1) (SqL.of h3) h2 h4)⟩
  · exact gp.elim
theorem walks_zipT {F : Hp} {a b : Addr} {xs ys : List V} {ds es : List D} (h1 : SqT K F a xs) (h2 : SqT K F b ys) (r1 : RpA K F xs ds) (r2 : RpA K F ys es) : Walks K (RZ.ItzT K a b) F (zipD ds es) := fun F1 H sa sb i => by
  refine ⟨fun d e => ?_, fun e => ?_⟩
  · obtain ⟨x, y, e1, e2, rfl⟩ := zipD_get e
    obtain ⟨v, q1, q2⟩ := r1.get' e1
    obtain ⟨w, q3, q4⟩ := r2.get' e2
    refine ⟨⟨xs, ys, v, w, sb.seqT (sa.seqT h1), sb.seqT (sa.seqT h2), q1, q3⟩, fun z H' q => ?_⟩
    obtain ⟨T, x', y', rfl, nT, rfl, g1, g2⟩ := q
    have e3 := g1 xs (sb.seqT (sa.seqT h1))
    have e4 := g2 ys (sb.seqT (sa.seqT h2))
    rw [q1] at e3
    rw [q3] at e4
    cases e3
    cases e4
    have sT : Same F1 (upd F1 T (.tup [v, w])) := sub_upd (sb.free nT)
    exact ⟨_, .inr ⟨T, _, nT, rfl, rfl⟩, .tup (SqT.of upd_same) (.cons (q2.mono (sa.trans sT)) (.cons (q4.mono (sa.trans sT)) .nil))⟩
  · refine ⟨xs, ys, sb.seqT (sa.seqT h1), sb.seqT (sa.seqT h2), ?_⟩
    rw [r1.length, r2.length]
    exact zipD_none e
theorem shi_zipA (h : ShA K mg E tr ms) : ShI K mg E (RZ.iZipA K tr) (itZ ms) := by
  intro Φ F σ H ρ Rr W r x g
  have g1 := Good.bind (r := mA ms ρ) g
  refine h Φ F σ H ρ _ W r x (g1.mono (fun p gp vs F1 H1 r1 s1 rv el => ?_) fun _ _ _ w => w)
  obtain ⟨ds, ρ'⟩ := p
  dsimp only at gp rv r1
  split at gp
  · obtain ⟨v, w, rfl, hv, hw⟩ := two_rp rv
    cases hv with
    | lst h1 h2 =>
      cases hw with
      | lst h3 h4 => exact ⟨_, _, _, _, rfl, .inl ⟨SqL.of (r1.sub _ _ h1), SqL.of (r1.sub _ _ h3), gp _ F1 H1 r1 s1 (walks_zip (SqL.of h1) (SqL.of h3) h2 h4)⟩⟩
  · obtain ⟨v, w, rfl, hv, hw⟩ := two_rp rv
    cases hv with
    | tup h1 h2 =>
      cases hw with
      | tup h3 h4 => exact ⟨_, _, _, _, rfl, .inr ⟨r1.sub.seqT h1, r1.sub.seqT h3, gp _ F1 H1 r1 s1 (walks_zipT h1 h3 h2 h4)⟩⟩
  · exact gp.elim
/-! comprehensions -/
def Res.nx {α : Type} : Res α → Res α
  | .ok a => .ok a
  | _ => .stuck
theorem Good.nx {α : Type} {r : Res α} {P : α → Prop} {W W' : Str → D → Env → Prop} (h : Good r.nx P W) : Good r P W' := by
  cases r <;> first | exact h | exact False.elim h
def mYes : MT := fun ρ => .ok (true, ρ)
def mLcL (tg : MG) (mt : MT) (me : ME) (vs : List Nat) : List D → List D → Env → Res (List D × Env)
  | [], acc, ρ => .ok (acc, ρ)
  | x :: xs, acc, ρ => match tg x ρ with
    | none => .stuck
    | some ρ1 => (mt ρ1).nx.bind fun p => if p.1 = true then (me p.2).nx.bind fun q => if acc.length < 16777216 ∧ vs.all (notIo q.2) = true then mLcL tg mt me vs xs (acc ++ [q.1]) (wipeE q.2 vs) else .stuck
      else if vs.all (notIo p.2) = true then mLcL tg mt me vs xs acc (wipeE p.2 vs) else .stuck
def mLc (it : MA) (tg : MG) (mt : MT) (me : ME) (vs : List Nat) : ME := fun ρ => (it ρ).bind fun p => if vs.all (notIo p.2) = true then (mLcL tg mt me vs p.1 [] (wipeE p.2 vs)).bind fun q => .ok (.list q.1, restE p.2 q.2 vs) else .stuck
theorem xw_false {Φ : Fm} : XW K mg Φ E fun _ _ _ _ => False := fun _ _ _ _ _ _ _ _ _ _ _ _ _ _ _ h => h.elim
theorem shf_lc {wi : TI} {g : TG} {it : MA} {tg : MG} {vs : List Nat} (hi : ShI K mg E wi it) {ts : List Nat} (hg : ShG K g tg ts) (sub : ∀ i ∈ ts, i ∈ vs) (ht : ShT K mg E t mt) (he : ShE K mg E te m) : ShF K mg E (tLc wi g t te vs) (mLc it tg mt m vs) := by
  intro Φ F σ H ρ Q W r x gg
  have g1 := Good.bind (r := it ρ) gg
  refine hi Φ F σ H ρ _ W r x (g1.mono (fun p gp J F1 H1 r1 s1 wk => ?_) fun _ _ _ w => w)
  intro D nD
  split at gp
  · rename_i ok
    have gp := gp.bind
    have n0 : Φ.H0 D = none := r1.dom D nD
    have nF1 : F1 D = none := r1.sub.free nD
    have n1 : Φ.F0 D = none := r1.sub0.free nF1
    have ni : ∀ k, Φ.io k ≠ some D := fun k z => absurd n0 (r1.io1 k D z).1
    refine ⟨fun i n H => ∃ F' ρ' vacc acc, R K (prot Φ D (.lst vacc)) F' (L2.wipe σ vs) H ρ' ∧ Same F1 F' ∧ RpA K F' vacc acc ∧ n = p.1.length - i ∧ Good (mLcL tg mt m vs (p.1.drop i) acc ρ') (fun q => ∀ a F2 H2, R K Φ F2 σ H2 (restE p.2 q.2 vs) → Same F F2 → F2 a = none → Φ.H0 a = none →
        (∀ (j : Nat) d, (restE p.2 q.2 vs)[j]? = some (.own d) → σ[j]? ≠ some (some (.ref a))) → OwnR K F2 H2 a (.list q.1) → Q (.ref a) H2) (up F W), ?_, ?_⟩
    · obtain ⟨r2, nF, _, ap⟩ := (r1.wipe vs ok).allocO (o := .lst []) nD
      exact ⟨_, F1, _, [], [], r2.protect upd_same nF n0 ap, Same.refl _, .nil, rfl, gp⟩
    · rintro i n H' ⟨F', ρ', vacc, acc, r', s', ra, hn, g'⟩
      obtain ⟨eD, nF', ap, r''⟩ := r'.unprot (u := .lst vacc) n0 n1 ni
      have eH : upd H' D (.lst vacc) = H' := by
        funext b
        by_cases y : b = D
        · subst y; rw [upd_same, eD]
        · rw [upd_ne y]
      rw [eH] at r''
      obtain ⟨w1, w2⟩ := wk F' H' s' r'.sub i
      cases e : p.1[i]? with
      | none =>
        refine .inl ⟨w2 e, ?_⟩
        rw [List.drop_eq_nil_of_le (List.getElem?_eq_none_iff.mp e)] at g'
        have r3 := r1.rest r'' s' ok
        refine g' D F' H' r3 (s1.trans s') nF' n0 (fun j d q z => ?_) ⟨vacc, eD, ra⟩
        rcases restE_get p.2 vs q with ⟨_, y | ⟨_, y, _⟩⟩ | ⟨y1, y2⟩
        · cases y
        · cases y
        · exact ap j d y2 (by rw [wipe_out y1]; exact z)
      | some d =>
        obtain ⟨go, yld⟩ := w1 d e
        have hlt : i < p.1.length := (List.getElem?_eq_some_iff.mp e).1
        rw [drop_get e] at g'
        unfold mLcL at g'
        cases z : tg d ρ' with
        | none => rw [z] at g'; exact g'.elim
        | some ρ2 =>
          rw [z] at g'
          have g2 := Good.nx (W' := fun _ _ _ => False) (Good.bind (r := (mt ρ2).nx) g')
          refine .inr ⟨go, fun H3 => ∃ F' ρ' vacc acc, R K (prot Φ D (.lst vacc)) F' (L2.wipe σ vs) H3 ρ' ∧ Same F1 F' ∧ RpA K F' vacc acc ∧ Good (mLcL tg mt m vs (p.1.drop (i + 1)) acc ρ') (fun q => ∀ a F2 H2, R K Φ F2 σ H2 (restE p.2 q.2 vs) → Same F F2 → F2 a = none → Φ.H0 a = none →
            (∀ (j : Nat) d, (restE p.2 q.2 vs)[j]? = some (.own d) → σ[j]? ≠ some (some (.ref a))) → OwnR K F2 H2 a (.list q.1) → Q (.ref a) H2) (up F W), fun H3 ⟨F', ρ', va, ac, q1, q2, q3, q4⟩ => ⟨_, by subst hn; omega, F', ρ', va, ac, q1, q2, q3, rfl, q4⟩, fun v H3 y => ?_⟩
          obtain ⟨F2, yl, rv⟩ := yld v H3 y
          obtain ⟨r2, s2⟩ := r'.yl yl
          refine hg _ F2 _ H3 ρ' ρ2 v d _ r2 rv z fun σ2 r3 tch => ?_
          have ew : L2.wipe σ2 vs = L2.wipe σ vs := by rw [wipe_eq sub tch, wipe_wipe]
          refine ⟨ew, ht _ F2 σ2 H3 ρ2 _ (fun _ _ _ _ => False) r3 xw_false (g2.mono (fun q gq F4 H4 r4 s4 => ?_) fun _ _ _ w => w.elim)⟩
          by_cases c : q.1 = true
          · rw [if_pos c] at gq ⊢
            have g3 := Good.nx (W' := fun _ _ _ => False) (Good.bind (r := (m q.2).nx) gq)
            refine he _ F4 σ2 H4 q.2 _ (fun _ _ _ _ => False) r4 xw_false (g3.mono (fun w gw y F5 H5 r5 s5 ry => ?_) fun _ _ _ w => w.elim)
            split at gw
            · rename_i hz
              have r6 := r5.wipe vs hz.2
              rw [ew] at r6
              obtain ⟨eD5, nF5, ap5, r7⟩ := r6.unprot (u := .lst (vacc ++ [y])) n0 n1 ni
              refine ⟨vacc, eD5, by rw [ra.length, sizeLine_eq]; exact hz.1, F5, _, vacc ++ [y], acc ++ [w.1], r7.protect upd_same nF5 n0 ap5, ((s'.trans s2).trans s4).trans s5, (ra.mono ((s2.trans s4).trans s5)).append (.cons ry .nil), gw⟩
            · exact gw.elim
          · rw [if_neg c] at gq ⊢
            split at gq
            · rename_i hz
              have r6 := r4.wipe vs hz
              rw [ew] at r6
              exact ⟨F4, _, vacc, acc, r6, (s'.trans s2).trans s4, ra.mono (s2.trans s4), gq⟩
            · exact gq.elim
  · exact gp.elim
end
/-- a frame without an io object; with one in slot 0 -/
abbrev fm0 (H F : Hp) : Fm := ⟨H, fun _ => none, F, fun _ _ _ e => by cases e⟩
def io0 (a : Addr) : Nat → Option Addr
  | 0 => some a
  | _ => none
theorem io0_at {a b : Addr} {k : Nat} (h : io0 a k = some b) : k = 0 ∧ b = a := by
  cases k with
  | zero => cases h; exact ⟨rfl, rfl⟩
  | succ k => cases h
abbrev fm1 (H : Hp) (a : Addr) (F : Hp) : Fm := ⟨H, io0 a, F, fun _ _ _ e g => by rw [(io0_at e).1, (io0_at g).1]⟩
theorem io0_ne {a b : Addr} (h : b ≠ a) (k : Nat) : io0 a k ≠ some b := fun e => h (io0_at e).2
end Mi

set_option Elab.async false
set_option linter.all false
set_option maxRecDepth 100000
namespace Mi
open PySem PySem.Spec PyProof.Rows L2
section
variable {K : PySem.W.Frag} {mg : Str → Option Value} {E : L2.St → XK} {ta tb tc te td ty tv : TE} {t u : TT} {tr : TA} {ma mb mc m mk mv : ME} {mt mu' : MT} {ms : List ME} {s1 s2 : TS} {m1 m2 : MS}
theorem sht_yes : ShT K mg E tYes mYes := fun Φ F σ H ρ Q W r x g => g F H r (Same.refl _)
/-! own objects -/
/-- f of an own object that is only looked at -/
def mPeek (j : Nat) (m : ME) (f : D → D → Option D) : ME := fun ρ => match mu ρ j with
  | none => .stuck
  | some _ => (m ρ).bind fun p => match mu p.2 j with
    | none => .stuck
    | some d => ret (f d p.1) p.2
def PkSh (K : PySem.W.Frag) (r : R2) (f : D → D → Option D) : Prop := ∀ (F H : Hp) (a : Addr) (y : V) (d dy z : D) (Q : VK), Same F H → OwnS K F H a d → Rp K F y dy → f d dy = some z → (∀ v, Rp K F v z → Q v H) → r (.ref a) y H Q
theorem sh_peek {r : R2} {f : D → D → Option D} {j : Nat} (ho : PkSh K r f) (h : ShE K mg E te m) : ShE K mg E (tOp r (tVar j) te) (mPeek j m f) := by
  intro Φ F σ H ρ Q W rr x g
  unfold mPeek at g
  cases e : mu ρ j with
  | none => rw [e] at g; exact g.elim
  | some d0 =>
    rw [e] at g
    obtain ⟨a, ea, _, _⟩ := rr.mu e
    refine ⟨_, ea, h Φ F σ H ρ _ W rr x ((Good.bind (r := m ρ) g).mono (fun p gp v F1 H1 r1 s1 rv => ?_) fun _ _ _ w => w)⟩
    cases e1 : mu p.2 j with
    | none => simp only [e1] at gp; exact gp.elim
    | some d =>
      simp only [e1] at gp
      obtain ⟨a', ea', nF, ow⟩ := r1.mu e1
      rw [ea] at ea'
      cases ea'
      unfold ret at gp
      cases e2 : f d p.1 with
      | none => rw [e2] at gp; exact gp.elim
      | some z =>
        rw [e2] at gp
        exact ho F1 H1 a v d p.1 z Q r1.sub ow rv e2 fun w rw' => gp w F1 H1 r1 s1 rw'
theorem pk_ixL : PkSh K (rIxL K) fIxL := by
  intro F H a y d dy z Q s ow ry e q
  cases d <;> first | (cases e; done) | skip
  cases dy <;> first | (cases e; done) | skip
  obtain ⟨vs, h1, h2⟩ := ow
  cases ry
  obtain ⟨v, e1, e2⟩ := atI_rp h2 e
  exact ⟨_, _, _, v, rfl, rfl, SqL.of h1, e1, q _ e2⟩
/-! dicts -/
def keyD : D → Option Key
  | .int i => some (.inl i)
  | .str x => some (.inr x)
  | _ => none
def eqK : D → Key → Bool
  | .int i, .inl j => decide (i = j)
  | .str i, .inr j => decide (i = j)
  | _, _ => false
theorem eqK_kD (a b : Key) : eqK (kD a) b = decide (a = b) := by
  cases a <;> cases b <;> simp [eqK, kD]
theorem keyD_ok {F : Hp} {v : V} {d : D} {k : Key} (r : Rp K F v d) (e : keyD d = some k) : v = kV k ∧ d = kD k := by
  cases r <;> first | (cases e; exact ⟨rfl, rfl⟩) | cases e
def valD (kds : List (D × D)) (k : Key) : Option D := (kds.find? fun p => eqK p.1 k).map (·.2)
theorem valD_ok {F : Hp} {k : Key} : ∀ {kvs : List (Key × V)} {kds : List (D × D)}, RpK K F kvs kds → (valV kvs k = none ∧ valD kds k = none) ∨ ∃ v d, valV kvs k = some v ∧ valD kds k = some d ∧ Rp K F v d
  | _, _, .nil => .inl ⟨rfl, rfl⟩
  | _, _, .cons (k := k2) (v := v) (d := d) (vs := vs) (ds := ds) h r => by
    by_cases e : k2 = k
    · refine .inr ⟨v, d, valV_pos (p := (k2, v)) e, ?_, h⟩
      unfold valD
      rw [List.find?_cons]
      simp only [eqK_kD, decide_eq_true e]
      rfl
    · rw [valV_neg (p := (k2, v)) e]
      have : valD ((kD k2, d) :: ds) k = valD ds k := by
        unfold valD
        rw [List.find?_cons]
        simp only [eqK_kD, decide_eq_false e]
      rw [this]
      exact valD_ok r
def putD (kds : List (D × D)) (k : Key) (d : D) : List (D × D) :=
  if (kds.any fun p => eqK p.1 k) = true then kds.map (fun p => if eqK p.1 k = true then (p.1, d) else p) else kds ++ [(kD k, d)]
theorem any_ok {F : Hp} {k : Key} : ∀ {kvs : List (Key × V)} {kds : List (D × D)}, RpK K F kvs kds → (kvs.any fun kv => decide (kv.1 = k)) = kds.any fun p => eqK p.1 k
  | _, _, .nil => rfl
  | _, _, .cons h r => by rw [List.any_cons, List.any_cons, eqK_kD, any_ok r]
theorem RpK.map {F : Hp} {k : Key} {v : V} {d : D} (hv : Rp K F v d) : ∀ {kvs : List (Key × V)} {kds : List (D × D)}, RpK K F kvs kds → RpK K F (kvs.map fun kv => if kv.1 = k then (kv.1, v) else kv) (kds.map fun p => if eqK p.1 k = true then (p.1, d) else p)
  | _, _, .nil => .nil
  | _, _, .cons (k := k2) h r => by
    rw [List.map_cons, List.map_cons]
    by_cases e : k2 = k
    · rw [if_pos e, if_pos (by rw [eqK_kD]; exact decide_eq_true e)]
      exact .cons hv (RpK.map hv r)
    · rw [if_neg e, if_neg (by rw [eqK_kD]; simpa using e)]
      exact .cons h (RpK.map hv r)
theorem RpK.append {F : Hp} : ∀ {a b : List (Key × V)} {c d : List (D × D)}, RpK K F a c → RpK K F b d → RpK K F (a ++ b) (c ++ d)
  | _, _, _, _, .nil, q => q
  | _, _, _, _, .cons h r, q => .cons h (RpK.append r q)
theorem RpK.length {F : Hp} : ∀ {a : List (Key × V)} {c : List (D × D)}, RpK K F a c → a.length = c.length
  | _, _, .nil => rfl
  | _, _, .cons h r => by rw [List.length_cons, List.length_cons, RpK.length r]
theorem RpK.put {F : Hp} {k : Key} {v : V} {d : D} {kvs : List (Key × V)} {kds : List (D × D)} (r : RpK K F kvs kds) (hv : Rp K F v d) : RpK K F (putK kvs k v) (putD kds k d) := by
  unfold putK putD
  rw [any_ok r]
  split
  · exact RpK.map hv r
  · exact r.append (.cons hv .nil)
def fGetD : D → D → Option D
  | .dict kds, k => (keyD k).bind (valD kds)
  | _, _ => none
theorem fGetD_ok {F H : Hp} {a : Addr} {y : V} {kvs : List (Key × V)} {kds : List (D × D)} {dk z : D} (e : H a = some (.dK kvs)) (r : RpK K F kvs kds) (ry : Rp K F y dk) (h : fGetD (.dict kds) dk = some z) : ∃ v, DGet H a y (some v) ∧ Rp K F v z := by
  have h : (keyD dk).bind (valD kds) = some z := h
  cases ek : keyD dk with
  | none => rw [ek] at h; cases h
  | some k =>
    rw [ek] at h
    obtain ⟨rfl, _⟩ := keyD_ok ry ek
    rcases valD_ok (k := k) r with ⟨_, h2⟩ | ⟨v, d, h1, h2, h3⟩
    · have h : valD kds k = some z := h
      rw [h2] at h; cases h
    · have h : valD kds k = some z := h
      rw [h2] at h
      cases h
      exact ⟨v, by rw [← h1]; exact DGet.k e, h3⟩
/-- d[k] of a dict that is fixed -/
def mGet (md mk : ME) : ME := mOp fGetD md mk
theorem sh_get (hd : ShE K mg E td m) (hk : ShE K mg E ty mk) : ShE K mg E (tDGet td ty) (mGet m mk) := by
  refine (show ShE K mg E (tOp (fun x y H Q => ∃ a v, x = .ref a ∧ DGet H a y (some v) ∧ Q v H) td ty) (mGet m mk) from sh_op (OpS.sh fun F H x y dx dy d Q s rx ry e q => ?_) hd hk)
  cases rx <;> try (cases e; done)
  · rename_i a xs ds h1 h2
    have e : (keyD dy).bind (valD [(.none, .list ds)]) = some d := e
    cases ek : keyD dy with
    | none => rw [ek] at e; cases e
    | some k =>
      rw [ek] at e
      have e : valD [(.none, .list ds)] k = some d := e
      unfold valD at e
      cases k <;> simp [eqK] at e
  · rename_i a kvs ds h1 h2
    obtain ⟨v, g1, g2⟩ := fGetD_ok (s _ _ h1) h2 ry e
    exact ⟨a, v, rfl, g1, q v g2⟩
/-- d[k] of an own dict -/
def mGetO (j : Nat) (mk : ME) : ME := mPeek j mk fGetD
theorem sh_getO {j : Nat} (hk : ShE K mg E ty mk) : ShE K mg E (tDGet (tVar j) ty) (mGetO j mk) := by
  refine (show ShE K mg E (tOp (fun x y H Q => ∃ a v, x = .ref a ∧ DGet H a y (some v) ∧ Q v H) (tVar j) ty) (mGetO j mk) from sh_peek (fun F H a y d dy z Q s ow ry e q => ?_) hk)
  cases d <;> first | (cases e; done) | skip
  obtain ⟨kvs, h1, h2⟩ := ow
  obtain ⟨v, g1, g2⟩ := fGetD_ok h1 h2 ry e
  exact ⟨a, v, rfl, g1, q v g2⟩
/-- d[k] = v of an own dict -/
def mPutO (j : Nat) (mk mv : ME) : MS := fun ρ => (mv ρ).out fun p => match mu p.2 j with
  | none => .stuck
  | some _ => (mk p.2).out fun q => match mu q.2 j with
    | some (.dict kds) => match keyD q.1 with
      | some k => if kds.length < 16777216 then .nx (putMu q.2 j (.dict (putD kds k p.1))) else .stuck
      | none => .stuck
    | _ => .stuck
theorem shs_putO {j : Nat} (hk : ShE K mg E ty mk) (hv : ShE K mg E tv mv) : ShS K mg E (sDPut (tVar j) ty tv) (mPutO j mk mv) := by
  intro Φ F σ H ρ De W r x gg
  refine hv Φ F σ H ρ _ W r x ((GoodS.out (r := mv ρ) gg).mono (fun p gp v F1 H1 r1 s1 rv => ?_) fun _ _ _ w => w)
  cases e : mu p.2 j with
  | none => simp only [e] at gp; exact gp.elim
  | some d0 =>
    simp only [e] at gp
    obtain ⟨a, ea, _, _⟩ := r1.mu e
    refine ⟨_, ea, hk Φ F1 σ H1 p.2 _ W r1 x ((GoodS.out (r := mk p.2) gp).mono (fun q gq y F2 H2 r2 s2 ry => ?_) fun _ _ _ w => up.weak s1 w)⟩
    split at gq
    · rename_i kds e1
      obtain ⟨a', ea', nF, ow⟩ := r2.mu e1
      rw [ea] at ea'
      cases ea'
      obtain ⟨kvs, h1, h2⟩ := ow
      split at gq
      · rename_i k ek
        split at gq
        · rename_i hl
          obtain ⟨rfl, _⟩ := keyD_ok ry ek
          refine ⟨a, _, rfl, DPut.k h1 (by rw [h2.length, sizeLine_eq]; exact hl), ?_⟩
          exact gq σ F2 _ (r2.putMu e1 ea ⟨_, upd_same, h2.put (rv.mono s2)⟩) (s1.trans s2)
        · exact gq.elim
      · exact gq.elim
    · exact gq.elim
/-! methods of an own list -/
def mApp (j : Nat) (m : ME) : ME := fun ρ => match mu ρ j with
  | some (.list _) => (m ρ).bind fun p => match mu p.2 j with
    | some (.list ds) => if ds.length < 16777216 then .ok (.none, putMu p.2 j (.list (ds ++ [p.1]))) else .stuck
    | _ => .stuck
  | _ => .stuck
theorem tyV_own {F H : Hp} {a : Addr} {ds : List D} (o : OwnS K F H a (.list ds)) : tyV K "list" (.ref a) H := by
  obtain ⟨vs, h1, _⟩ := o
  exact .inl ⟨rfl, _, SqL.of h1⟩
theorem sh_app {j : Nat} (h : ShE K mg E te m) : ShE K mg E (tBM K "list" rAppend (tVar j) (tCons te tNil)) (mApp j m) := by
  intro Φ F σ H ρ Q W r x g
  unfold mApp at g
  split at g
  · rename_i d0 e0
    obtain ⟨a, ea, _, ow0⟩ := r.mu e0
    refine ⟨_, ea, tyV_own ow0, h Φ F σ H ρ _ W r x ((Good.bind (r := m ρ) g).mono (fun p gp v F1 H1 r1 s1 rv => ?_) fun _ _ _ w => w)⟩
    split at gp
    · rename_i ds e1
      split at gp
      · rename_i hl
        obtain ⟨a', ea', nF, vs, h1, h2⟩ := r1.mu e1
        rw [ea] at ea'
        cases ea'
        refine ⟨a, vs, v, rfl, rfl, h1, by rw [h2.length, sizeLine_eq]; exact hl, ?_⟩
        exact gp _ F1 _ (r1.putMu e1 ea ⟨_, upd_same, h2.append (.cons rv .nil)⟩) s1 .non
      · exact gp.elim
    · exact gp.elim
  · exact g.elim
def mIns (j : Nat) (mi m : ME) : ME := fun ρ => match mu ρ j with
  | some (.list _) => (mA [mi, m] ρ).bind fun p => match mu p.2 j, p.1 with
    | some (.list ds), [.int i, y] => if ds.length < 16777216 ∧ 0 ≤ i ∧ i < 1000000000 then .ok (.none, putMu p.2 j (.list (ds.take i.toNat ++ [y] ++ ds.drop i.toNat))) else .stuck
    | _, _ => .stuck
  | _ => .stuck
theorem sh_ins {j : Nat} (h : ShA K mg E tr [mk, m]) : ShE K mg E (tBM K "list" Rd.INS (tVar j) tr) (mIns j mk m) := by
  intro Φ F σ H ρ Q W r x g
  unfold mIns at g
  split at g
  · rename_i d0 e0
    obtain ⟨a, ea, _, ow0⟩ := r.mu e0
    refine ⟨_, ea, tyV_own ow0, h Φ F σ H ρ _ W r x ((Good.bind (r := mA [mk, m] ρ) g).mono (fun p gp vs F1 H1 r1 s1 rv el => ?_) fun _ _ _ w => w)⟩
    obtain ⟨ds0, ρ'⟩ := p
    dsimp only at gp rv r1
    split at gp
    · rename_i ds i y e1
      split at gp
      · rename_i hl
        obtain ⟨a', ea', nF, xs, h1, h2⟩ := r1.mu e1
        rw [ea] at ea'
        cases ea'
        obtain ⟨v, w, rfl, hv, hw⟩ := two_rp rv
        cases hv
        refine ⟨a, xs, i, w, rfl, rfl, h1, by rw [h2.length, sizeLine_eq]; exact hl.1, hl.2.1, by have := hl.2.2; omega, ?_⟩
        exact gp _ F1 _ (r1.putMu e1 ea ⟨_, upd_same, ((h2.take _).append (.cons hw .nil)).append (h2.drop _)⟩) s1 .non
      · exact gp.elim
    · exact gp.elim
  · exact g.elim
/-- x[i] = v of an own list -/
def mSetIx (j : Nat) (mi mv : ME) : MS := fun ρ => (mv ρ).out fun p => match mu p.2 j with
  | none => .stuck
  | some _ => (mi p.2).out fun q => match mu q.2 j, q.1 with
    | some (.list ds), .int i => match ixN ds.length i with
      | some k => .nx (putMu q.2 j (.list (ds.set k p.1)))
      | none => .stuck
    | _, _ => .stuck
theorem shs_setIx {j : Nat} (hi : ShE K mg E ty mk) (hv : ShE K mg E tv mv) : ShS K mg E (tAsg tv (gSub (tVar j) ty rSetL)) (mSetIx j mk mv) := by
  intro Φ F σ H ρ De W r x gg
  refine hv Φ F σ H ρ _ W r x ((GoodS.out (r := mv ρ) gg).mono (fun p gp v F1 H1 r1 s1 rv => ?_) fun _ _ _ w => w)
  cases e : mu p.2 j with
  | none => simp only [e] at gp; exact gp.elim
  | some d0 =>
    simp only [e] at gp
    obtain ⟨a, ea, _, _⟩ := r1.mu e
    refine ⟨_, ea, hi Φ F1 σ H1 p.2 _ W r1 x ((GoodS.out (r := mk p.2) gp).mono (fun q gq y F2 H2 r2 s2 ry => ?_) fun _ _ _ w => up.weak s1 w)⟩
    obtain ⟨dq, ρq⟩ := q
    dsimp only at gq ry r2
    split at gq
    · rename_i ds i e1
      obtain ⟨a', ea', nF, vs, h1, h2⟩ := r2.mu e1
      rw [ea] at ea'
      cases ea'
      cases ry
      split at gq
      · rename_i k ek
        refine ⟨a, vs, i, k, rfl, rfl, h1, by rw [h2.length]; exact ek, ?_⟩
        exact gq σ F2 _ (r2.putMu e1 ea ⟨_, upd_same, h2.set k (rv.mono s2)⟩) (s1.trans s2)
      · exact gq.elim
    · exact gq.elim
/-! slices -/
abbrev MO := Env → Res (Option Int × Env)
def ShO (K : PySem.W.Frag) (mg : Str → Option Value) (E : L2.St → XK) (t : TO) (m : MO) : Prop := ∀ (Φ : Fm) (F : Hp) (σ : L2.St) (H : Hp) (ρ : Env) (Q : Option Int → Hp → Prop) (W : WXm), R K Φ F σ H ρ → XW K mg Φ E W →
  Good (m ρ) (fun p => ∀ F' H', R K Φ F' σ H' p.2 → Same F F' → Q p.1 H') (up F W) → t σ H Q
def mNoPart : MO := fun ρ => .ok (none, ρ)
theorem sho_none : ShO K mg E tNoPart mNoPart := fun Φ F σ H ρ Q W r x g => g F H r (Same.refl _)
def mPart (m : ME) : MO := fun ρ => (m ρ).bind fun p => match p.1 with
  | .int i => .ok (some i, p.2)
  | _ => .stuck
theorem sho_some (h : ShE K mg E te m) : ShO K mg E (tPart te) (mPart m) := by
  intro Φ F σ H ρ Q W r x g
  refine h Φ F σ H ρ _ W r x ((Good.bind (r := m ρ) g).mono (fun p gp v F1 H1 r1 s1 rv => ?_) fun _ _ _ w => w)
  obtain ⟨d, ρ'⟩ := p
  cases rv <;> try (exact False.elim gp)
  exact ⟨_, rfl, gp F1 H1 r1 s1⟩
def cutD (xs : List D) (lo hi : Option Int) : List D := (xs.drop (HT.sIx xs.length 0 lo)).take (HT.sIx xs.length xs.length hi - HT.sIx xs.length 0 lo)
theorem cut_rp {F : Hp} {xs : List V} {ds : List D} {lo hi : Option Int} (r : RpA K F xs ds) : RpA K F (cutV xs lo hi) (cutD ds lo hi) := by
  unfold cutV cutD
  rw [r.length]
  exact (r.drop _).take _
def mSl (f : D → Option Int → Option Int → Option D) (m : ME) (ml mh : MO) : ME := fun ρ => (m ρ).bind fun p => (ml p.2).bind fun l => (mh l.2).bind fun h => ret (f p.1 l.1 h.1) h.2
def fSlT : D → Option Int → Option Int → Option D
  | .tuple ds, lo, hi => some (.tuple (cutD ds lo hi))
  | _, _, _ => none
def fSlL : D → Option Int → Option Int → Option D
  | .list ds, lo, hi => some (.list (cutD ds lo hi))
  | _, _, _ => none
theorem sh_slT {tl th : TO} {ml mh : MO} (h : ShE K mg E te m) (hl : ShO K mg E tl ml) (hh : ShO K mg E th mh) : ShE K mg E (tSl (rSlA K) te tl th) (mSl fSlT m ml mh) := by
  intro Φ F σ H ρ Q W r x g
  refine h Φ F σ H ρ _ W r x ((Good.bind (r := m ρ) g).mono (fun p gp v F1 H1 r1 s1 rv => ?_) fun _ _ _ w => w)
  refine hl Φ F1 σ H1 p.2 _ W r1 x ((Good.bind (r := ml p.2) gp).mono (fun l gl F2 H2 r2 s2 => ?_) fun _ _ _ w => up.weak s1 w)
  refine hh Φ F2 σ H2 l.2 _ W r2 x ((Good.bind (r := mh l.2) gl).mono (fun q gq F3 H3 r3 s3 => ?_) fun _ _ _ w => up.weak (s1.trans s2) w)
  obtain ⟨d, ρ'⟩ := p
  have rv3 := rv.mono (s2.trans s3)
  cases rv <;> try (exact False.elim gq)
  rename_i a xs ds h1 h2
  have hs := s2.trans s3
  refine ⟨a, xs, rfl, r3.sub.seqT (hs.seqT h1), fun z => ?_, fun _ p np => ?_⟩
  · have ec : cutD ds l.1 q.1 = ds := by
      unfold cutD
      rw [← h2.length, z.1, z.2, List.drop_zero, Nat.sub_zero, h2.length, List.take_length]
    have gq : ∀ v F' H', R K Φ F' σ H' q.2 → Same F F' → Rp K F' v (.tuple (cutD ds l.1 q.1)) → Q v H' := gq
    rw [ec] at gq
    exact gq _ F3 H3 r3 ((s1.trans s2).trans s3) rv3
  · obtain ⟨r4, s4⟩ := r3.alloc (o := .tup (cutV xs l.1 q.1)) np
    exact gq _ _ _ r4 (((s1.trans s2).trans s3).trans s4) (.tup (SqT.of upd_same) (cut_rp (h2.mono (hs.trans s4))))
theorem shf_slL {tl th : TO} {ml mh : MO} (h : ShE K mg E te m) (hl : ShO K mg E tl ml) (hh : ShO K mg E th mh) : ShF K mg E (tSl (rSlL K) te tl th) (mSl fSlL m ml mh) := by
  intro Φ F σ H ρ Q W r x g
  refine h Φ F σ H ρ _ W r x ((Good.bind (r := m ρ) g).mono (fun p gp v F1 H1 r1 s1 rv => ?_) fun _ _ _ w => w)
  refine hl Φ F1 σ H1 p.2 _ W r1 x ((Good.bind (r := ml p.2) gp).mono (fun l gl F2 H2 r2 s2 => ?_) fun _ _ _ w => up.weak s1 w)
  refine hh Φ F2 σ H2 l.2 _ W r2 x ((Good.bind (r := mh l.2) gl).mono (fun q gq F3 H3 r3 s3 => ?_) fun _ _ _ w => up.weak (s1.trans s2) w)
  obtain ⟨d, ρ'⟩ := p
  cases rv <;> try (exact False.elim gq)
  rename_i a xs ds h1 h2
  have hs := s2.trans s3
  refine ⟨a, xs, rfl, SqL.of (r3.sub _ _ (hs _ _ h1)), fun p np => ?_⟩
  obtain ⟨r4, nF, n0, ap⟩ := r3.allocO (o := .lst (cutV xs l.1 q.1)) np
  exact gq p F3 _ r4 ((s1.trans s2).trans s3) nF n0 ap ⟨_, upd_same, cut_rp (h2.mono hs)⟩
/-! + of lists and tuples -/
def fCatT : D → D → Option D
  | .tuple a, .tuple b => if a.length + b.length ≤ 16777216 then some (.tuple (a ++ b)) else none
  | _, _ => none
theorem s_catT : OpSh K (rCatA K) fCatT := by
  intro Φ F σ H ρ x y dx dy d Q rr rx ry e q
  cases dx <;> first | (cases e; done) | skip
  cases dy <;> first | (cases e; done) | skip
  rename_i as bs
  have e : (if as.length + bs.length ≤ 16777216 then some (PyData.tuple (as ++ bs)) else none) = some d := e
  split at e
  · rename_i hl
    cases e
    have rx' := rx
    have ry' := ry
    cases rx with
    | tup h1 h2 =>
      cases ry with
      | tup h3 h4 =>
        refine ⟨_, _, _, _, rfl, rfl, rr.sub.seqT h1, rr.sub.seqT h3, by rw [h2.length, h4.length, sizeLine_eq]; exact hl, fun z => ?_, fun _ z => ?_, fun _ _ p np => ?_⟩
        · subst z
          cases h2
          exact q _ F H rr (Same.refl _) ry'
        · subst z
          cases h4
          rw [List.append_nil] at q
          exact q _ F H rr (Same.refl _) rx'
        · obtain ⟨r4, s4⟩ := rr.alloc (o := .tup _) np
          exact q _ _ _ r4 s4 (.tup (SqT.of upd_same) ((h2.mono s4).append (h4.mono s4)))
  · cases e
def OpF (K : PySem.W.Frag) (r : R2) (f : D → D → Option D) : Prop := ∀ (F H : Hp) (x y : V) (dx dy d : D) (Q : VK), Same F H → Rp K F x dx → Rp K F y dy → f dx dy = some d →
  (∀ a ys es, H a = none → d = .list es → RpA K F ys es → Q (.ref a) (upd H a (.lst ys))) → r x y H Q
theorem shf_op {r : R2} {f : D → D → Option D} (ho : OpF K r f) (ha : ShE K mg E ta ma) (hb : ShE K mg E tb mb) : ShF K mg E (tOp r ta tb) (mOp f ma mb) := by
  intro Φ F σ H ρ Q W rr x g
  have g1 := Good.bind (r := ma ρ) g
  refine ha Φ F σ H ρ _ W rr x (g1.mono (fun p gp v F1 H1 r1 s1 rv => ?_) fun _ _ _ w => w)
  have g2 := gp.bind
  refine hb Φ F1 σ H1 p.2 _ W r1 x (g2.mono (fun q gq v2 F2 H2 r2 s2 rv2 => ?_) fun _ _ _ w => up.weak s1 w)
  unfold ret at gq
  cases e : f p.1 q.1 with
  | none => rw [e] at gq; exact gq.elim
  | some d =>
    rw [e] at gq
    refine ho F2 H2 v v2 _ _ d Q r2.sub (rv.mono s2) rv2 e fun a ys es na ed rys => ?_
    subst ed
    obtain ⟨r3, nF, n0, ap⟩ := r2.allocO (o := .lst ys) na
    exact gq a _ _ r3 (s1.trans s2) nF n0 ap ⟨ys, upd_same, rys⟩
def fCatL : D → D → Option D
  | .list a, .list b => if a.length + b.length ≤ 16777216 then some (.list (a ++ b)) else none
  | _, _ => none
theorem f_catL : OpF K rCat fCatL := by
  intro F H x y dx dy d Q s rx ry e q
  cases dx <;> first | (cases e; done) | skip
  cases dy <;> first | (cases e; done) | skip
  rename_i as bs
  have e : (if as.length + bs.length ≤ 16777216 then some (PyData.list (as ++ bs)) else none) = some d := e
  split at e
  · rename_i hl
    cases e
    cases rx with
    | lst h1 h2 =>
      cases ry with
      | lst h3 h4 => exact ⟨_, _, _, _, rfl, rfl, s _ _ h1, s _ _ h3, by rw [h2.length, h4.length, sizeLine_eq]; exact hl, fun p np => q p _ _ np rfl (h2.append h4)⟩
  · cases e
/-! sorted -/
def insI (x : Int) : List Int → List Int
  | [] => [x]
  | y :: ys => if x ≤ y then x :: y :: ys else y :: insI x ys
def sortI : List Int → List Int
  | [] => []
  | x :: xs => insI x (sortI xs)
theorem insI_perm (x : Int) : ∀ ys : List Int, (insI x ys).Perm (x :: ys)
  | [] => .refl _
  | y :: ys => by
    unfold insI
    split
    · exact .refl _
    · exact ((insI_perm x ys).cons y).trans (.swap x y ys)
theorem sortI_perm : ∀ xs : List Int, (sortI xs).Perm xs
  | [] => .refl _
  | x :: xs => (insI_perm x _).trans ((sortI_perm xs).cons x)
theorem insI_pw (x : Int) : ∀ ys : List Int, ys.Pairwise (· ≤ ·) → (insI x ys).Pairwise (· ≤ ·)
  | [], _ => List.pairwise_singleton ..
  | y :: ys, h => by
    obtain ⟨h1, h2⟩ := List.pairwise_cons.mp h
    unfold insI
    split
    · rename_i c
      refine List.pairwise_cons.mpr ⟨fun z hz => ?_, h⟩
      rcases List.mem_cons.mp hz with rfl | hz
      · exact c
      · exact Int.le_trans c (h1 z hz)
    · rename_i c
      refine List.pairwise_cons.mpr ⟨fun z hz => ?_, insI_pw x ys h2⟩
      rcases List.mem_cons.mp ((insI_perm x ys).mem_iff.mp hz) with rfl | hz
      · omega
      · exact h1 z hz
theorem sortI_pw : ∀ xs : List Int, (sortI xs).Pairwise (· ≤ ·)
  | [] => .nil
  | x :: xs => insI_pw x _ (sortI_pw xs)
theorem sorted_eq : ∀ {xs ys : List Int}, xs.Perm ys → xs.Pairwise (· ≤ ·) → ys.Pairwise (· ≤ ·) → xs = ys
  | [], ys, p, _, _ => p.nil_eq
  | x :: xs, [], p, _, _ => absurd p.length_eq (by simp)
  | x :: xs, y :: ys, p, h1, h2 => by
    obtain ⟨a1, a2⟩ := List.pairwise_cons.mp h1
    obtain ⟨b1, b2⟩ := List.pairwise_cons.mp h2
    have e1 : x ∈ y :: ys := p.mem_iff.mp (List.mem_cons_self ..)
    have e2 : y ∈ x :: xs := p.mem_iff.mpr (List.mem_cons_self ..)
    have e : x = y := by
      have l1 : y ≤ x := by rcases List.mem_cons.mp e1 with rfl | z; exact Int.le_refl _; exact b1 _ z
      have l2 : x ≤ y := by rcases List.mem_cons.mp e2 with rfl | z; exact Int.le_refl _; exact a1 _ z
      omega
    subst e
    rw [sorted_eq (p.cons_inv) a2 b2]
def cbSorted : List D → Option D
  | [.list ds] => (intsD ds).bind fun ns => if ns.length < 64 then some (.list ((sortI ns).map .int)) else none
  | _ => none
theorem cf_sorted : CbF K (rSorted K) cbSorted := fun F H xs ds d Q s rx e q => by
  unfold cbSorted at e
  split at e
  · rename_i es
    obtain ⟨v, rfl, hv⟩ := one_rp rx
    cases z : intsD es with
    | none => rw [z] at e; cases e
    | some ns =>
      rw [z] at e
      have e : (if ns.length < 64 then some (PyData.list ((sortI ns).map .int)) else none) = some d := e
      split at e
      · rename_i hl
        cases e
        cases hv with
        | lst h1 h2 =>
          refine ⟨_, ns, rfl, by rw [← h2.ints (intsD_eq z)]; exact SqL.of (s _ _ h1), hl, fun ns' p pm pw np => ?_⟩
          have : ns' = sortI ns := sorted_eq (pm.trans (sortI_perm ns).symm) pw (sortI_pw ns)
          subst this
          exact q p _ _ np rfl (RpA.ofInts _)
      · cases e
  · cases e
/-! isinstance -/
def tyD : D → String
  | .none => "NoneType"
  | .bool _ => "bool"
  | .int _ => "int"
  | .str _ => "str"
  | .list _ => "list"
  | .tuple _ => "tuple"
  | .dict _ => "dict"
def isiD (n : String) (d : D) : Option Bool := match d with
  | .dict _ => none
  | d => kitB (tyD d) n
theorem tyX_ok {F H : Hp} {v : V} {d : D} (s : Same F H) (r : Rp K F v d) (nd : ∀ k, d ≠ .dict k) : TyX K H v (.type (tyD d)) := by
  cases r with
  | non => exact .base .non
  | bl b => exact .base (.bl b)
  | int i => exact .base (.int i)
  | str x => exact .base (.str x)
  | lst h1 h2 => exact .base (.lst (s _ _ h1))
  | scr h1 h2 => exact absurd rfl (nd _)
  | dic h1 h2 => exact absurd rfl (nd _)
  | tup h1 h2 =>
    rcases s.seqT h1 with (h | ⟨o, h⟩) | ⟨o, its, n, h, c, _⟩
    · exact .base (.tup h)
    · exact .fTuple h
    · exact .kTuple h c
def mIsi (n : String) (m : ME) : ME := fun ρ => (m ρ).bind fun p => match isiD n p.1 with
  | some b => .ok (.bool b, p.2)
  | none => .stuck
theorem sh_isi {n : String} (h : ShE K mg E te m) : ShE K mg E (tCB (rIsi K) (tCons te (tCons (tC (.ty n)) tNil))) (mIsi n m) := by
  intro Φ F σ H ρ Q W r x g
  refine h Φ F σ H ρ _ W r x ((Good.bind (r := m ρ) g).mono (fun p gp v F1 H1 r1 s1 rv => ?_) fun _ _ _ w => w)
  cases e : isiD n p.1 with
  | none => simp only [e] at gp; exact gp.elim
  | some b =>
    simp only [e] at gp
    have nd : ∀ k, p.1 ≠ .dict k := fun k z => by rw [z] at e; cases e
    have ek : kitB (tyD p.1) n = some b := by
      unfold isiD at e
      split at e
      · cases e
      · exact e
    exact ⟨v, .ty n, _, _, b, rfl, .ty n, tyX_ok r1.sub rv nd, kit_ty ek, gp _ F1 H1 r1 s1 (.bl b)⟩
/-! ### calls -/
abbrev MF := List D → Res D
abbrev MFi := D → List D → Res (D × D)
/-- a def that changes nothing of its caller's -/
def spP (K : PySem.W.Frag) (mg : Str → Option Value) (n : Nat) (f : MF) : Sp := fun vs H Q E => vs.length = n ∧ ∃ F ds, Same F H ∧ RpA K F vs ds ∧
  Good (f ds) (fun d => ∀ v F' H', Same F F' → Same F' H' → (∀ b, F b = none → H b ≠ none → F' b = none) → Same H H' → Rp K F' v d → Q v H')
    (fun c d _ => ∀ C dx fs F' H', Same F F' → Same F' H' → (∀ b, F b = none → H b ≠ none → F' b = none) → Same H H' → mg c = some (.ref C) → H' dx = some (.xd fs) → F' dx = none → H dx = none → RpX K F' fs d → E (.ref C) (some dx) H')
/-- a def that makes a new object for its caller -/
def spF (K : PySem.W.Frag) (n : Nat) (f : MF) : Sp := fun vs H Q _ => vs.length = n ∧ ∃ F ds, Same F H ∧ RpA K F vs ds ∧
  Good (f ds) (fun d => ∀ a F' H', Same F F' → Same F' H' → (∀ b, F b = none → H b ≠ none → F' b = none) → Same H H' → F' a = none → H a = none → OwnR K F' H' a d → Q (.ref a) H') (fun _ _ _ => False)
/-- a def that may change its first argument -/
def spI (K : PySem.W.Frag) (n : Nat) (f : MFi) : Sp := fun vs H Q _ => vs.length = n + 1 ∧ ∃ F a d0 us ds, vs = .ref a :: us ∧ Same F H ∧ F a = none ∧ OwnS K F H a d0 ∧ RpA K F us ds ∧
  Good (f d0 ds) (fun p => ∀ v F' H', Same F F' → Same F' H' → (∀ b, F b = none → H b ≠ none → F' b = none) → (∀ b o, H b = some o → b ≠ a → H' b = some o) → OwnS K F' H' a p.2 → Rp K F' v p.1 → Q v H') (fun _ _ _ => False)
def mCall (f : MF) (ms : List ME) : ME := fun ρ => (mA ms ρ).bind fun p => (f p.1).nx.bind fun d => .ok (d, p.2)
theorem sh_call {f : MF} {n : Nat} (h : ShA K mg E tr ms) (hl : ms.length = n) : ShE K mg E (tCall (spP K mg n f) [] E0 tr) (mCall f ms) := by
  intro Φ F σ H ρ Q W r x g
  refine h Φ F σ H ρ _ W r x ((Good.bind (r := mA ms ρ) g).mono (fun p gp vs F1 H1 r1 s1 rv el => ?_) fun _ _ _ w => w)
  rw [List.append_nil]
  refine ⟨by rw [el, hl], F1, p.1, r1.sub, rv, (Good.nx (W' := fun _ _ _ => False) (Good.bind (r := (f p.1).nx) gp)).mono (fun d gd v F' H' sF sH nw kp rd => ?_) fun _ _ _ w => w.elim⟩
  exact gd v F' H' (r1.grow sF sH nw kp) (s1.trans sF) rd
theorem shf_call {f : MF} {n : Nat} (h : ShA K mg E tr ms) (hl : ms.length = n) : ShF K mg E (tCall (spF K n f) [] E0 tr) (mCall f ms) := by
  intro Φ F σ H ρ Q W r x g
  refine h Φ F σ H ρ _ W r x ((Good.bind (r := mA ms ρ) g).mono (fun p gp vs F1 H1 r1 s1 rv el => ?_) fun _ _ _ w => w)
  rw [List.append_nil]
  refine ⟨by rw [el, hl], F1, p.1, r1.sub, rv, (Good.nx (W' := fun _ _ _ => False) (Good.bind (r := (f p.1).nx) gp)).mono (fun d gd a F' H' sF sH nw kp nF' na ow => ?_) fun _ _ _ w => w.elim⟩
  refine gd a F' H' (r1.grow sF sH nw kp) (s1.trans sF) nF' (r1.dom a na) (fun j d e z => ?_) ow
  obtain ⟨b, w1, w2, w3, w4⟩ := r1.sl j _ e
  rw [z] at w1
  cases w1
  obtain ⟨o, eo⟩ := w4.ex
  rw [na] at eo
  cases eo
def mCallI (f : MFi) (j : Nat) (ms : List ME) : ME := fun ρ => match mu ρ j with
  | none => .stuck
  | some _ => (mA ms ρ).bind fun p => match mu p.2 j with
    | none => .stuck
    | some d0 => (f d0 p.1).nx.bind fun q => .ok (q.1, putMu p.2 j q.2)
theorem sh_callI {f : MFi} {n j : Nat} (h : ShA K mg E tr ms) (hl : ms.length = n) : ShE K mg E (tCall (spI K n f) [] E0 (tCons (tVar j) tr)) (mCallI f j ms) := by
  intro Φ F σ H ρ Q W r x g
  unfold mCallI at g
  cases e : mu ρ j with
  | none => rw [e] at g; exact g.elim
  | some d00 =>
    rw [e] at g
    obtain ⟨a, ea, _, _⟩ := r.mu e
    refine ⟨_, ea, h Φ F σ H ρ _ W r x ((Good.bind (r := mA ms ρ) g).mono (fun p gp vs F1 H1 r1 s1 rv el => ?_) fun _ _ _ w => w)⟩
    show spI K n f ((V.ref a :: vs) ++ []) H1 Q E0
    rw [List.append_nil]
    cases e1 : mu p.2 j with
    | none => simp only [e1] at gp; exact gp.elim
    | some d0 =>
      simp only [e1] at gp
      obtain ⟨a', ea', nF, ow⟩ := r1.mu e1
      rw [ea] at ea'
      cases ea'
      refine ⟨by rw [List.length_cons, el, hl], F1, a, d0, vs, p.1, rfl, r1.sub, nF, ow, rv, (Good.nx (W' := fun _ _ _ => False) (Good.bind (r := (f d0 p.1).nx) gp)).mono (fun q gq v F' H' sF sH nw kp ow' rd => ?_) fun _ _ _ w => w.elim⟩
      exact gq v F' H' (r1.growMu sF sH nw kp e1 ea ow') (s1.trans sF) rd
/-! ### a def by its body -/
def envP (N : Nat) (ds : List D) : Env := ds.map .val ++ List.replicate (N - ds.length) .no
def runP (N : Nat) (m : MS) : MF := fun ds => match m (envP N ds) with
  | .nx _ => .ok .none
  | .rt d _ => .ok d
  | .exc c d ρ => .exc c d ρ
  | _ => .stuck
theorem start_get {N : List Str} {vs : List V} {i : Nat} {v : V} (h : vs[i]? = some v) : (L2.start N vs)[i]? = some (some v) := by
  unfold L2.start
  have hi : i < vs.length := (List.getElem?_eq_some_iff.mp h).1
  rw [List.getElem?_append_left (by rw [List.length_map]; exact hi), List.getElem?_map, h]
  rfl
theorem envP_get {N : Nat} {ds : List D} {i : Nat} {s : Sl} (h : (envP N ds)[i]? = some s) : s = .no ∨ ∃ d, s = .val d ∧ ds[i]? = some d := by
  unfold envP at h
  by_cases hi : i < ds.length
  · rw [List.getElem?_append_left (by rw [List.length_map]; exact hi), List.getElem?_map, List.getElem?_eq_getElem hi] at h
    cases h
    exact .inr ⟨_, rfl, List.getElem?_eq_getElem hi⟩
  · rw [List.getElem?_append_right (by rw [List.length_map]; omega), List.getElem?_replicate] at h
    split at h
    · cases h; exact .inl rfl
    · cases h
theorem start_len {N : List Str} {vs : List V} (h : vs.length ≤ N.length) : (L2.start N vs).length = N.length := by
  unfold L2.start
  rw [List.length_append, List.length_map, List.length_replicate]
  omega
theorem R.startP {N : List Str} {vs : List V} {ds : List D} {F H : Hp} (sub : Same F H) (rv : RpA K F vs ds) (hl : vs.length ≤ N.length) : R K (fm0 H F) F (L2.start N vs) H (envP N.length ds) := by
  refine ⟨?_, sub, Same.refl _, fun b n _ => n, fun b o e _ => e, fun b e => e, fun i s e => ?_, fun i j a d e q1 => ?_, fun k a e => (by cases e), fun i d e => ?_⟩
  · rw [start_len hl]
    unfold envP
    rw [List.length_append, List.length_map, List.length_replicate, ← rv.length]
    omega
  · rcases envP_get e with rfl | ⟨d, rfl, q⟩
    · trivial
    · obtain ⟨v, q1, q2⟩ := rv.get' q
      exact ⟨v, start_get q1, q2⟩
  · rcases envP_get q1 with z | ⟨_, z, _⟩ <;> cases z
  · rcases envP_get e with z | ⟨_, z, _⟩ <;> cases z
theorem body_P {N : List Str} {n : Nat} {f : MS} {vs : List V} {H : Hp} {Q : VK} {Ex : XK} (hs : ShS K mg (fun _ => Ex) s1 f) (h : spP K mg n (runP N.length f) vs H Q Ex) (hn : n ≤ N.length) : s1 { nx := fun _ H' => Q .non H', rt := Q } (L2.start N vs) H := by
  obtain ⟨hl, F, ds, sub, rv, g⟩ := h
  have r := R.startP (N := N) sub rv (by omega)
  refine hs (fm0 H F) F _ H _ _ (fun c d _ _ => ∀ C dx fs F' H', Same F F' → Same F' H' → (∀ b, F b = none → H b ≠ none → F' b = none) → Same H H' → mg c = some (.ref C) → H' dx = some (.xd fs) → F' dx = none → H dx = none → RpX K F' fs d → Ex (.ref C) (some dx) H') r ?_ ?_
  · intro c d ρ F' σ' H' C dx fs r' em ex nF n0 rx w
    exact w C dx fs F' H' r'.sub0 r'.sub r'.new (fun b o e => r'.kept b o e (fun _ z => by cases z)) em ex nF n0 rx
  · unfold runP at g
    cases e : f (envP N.length ds) with
    | nx ρ => rw [e] at g; exact fun σ' F' H' r' s' => g .non F' H' s' r'.sub r'.new (fun b o e => r'.kept b o e (fun _ z => by cases z)) .non
    | rt d ρ => rw [e] at g; exact fun σ' v F' H' r' s' rd => g v F' H' s' r'.sub r'.new (fun b o e => r'.kept b o e (fun _ z => by cases z)) rd
    | bk ρ => rw [e] at g; exact g.elim
    | ct ρ => rw [e] at g; exact g.elim
    | exc c d ρ => rw [e] at g; exact fun F' _ => g
    | stuck => rw [e] at g; exact g.elim
def envI (N : Nat) (d0 : D) (ds : List D) : Env := .io d0 :: envP (N - 1) ds
def ioOf (ρ : Env) : D := match ρ[0]? with
  | some (Sl.io d) => d
  | _ => .none
def runI (N : Nat) (m : MS) : MFi := fun d0 ds => match m (envI N d0 ds) with
  | .nx ρ => .ok (.none, ioOf ρ)
  | .rt d ρ => .ok (d, ioOf ρ)
  | _ => .stuck
theorem R.startI {N : List Str} {a : Addr} {us : List V} {d0 : D} {ds : List D} {F H : Hp} (sub : Same F H) (nF : F a = none) (ow : OwnS K F H a d0) (rv : RpA K F us ds) (hl : us.length + 1 ≤ N.length) :
    R K (fm1 H a F) F (L2.start N (.ref a :: us)) H (envI N.length d0 ds) := by
  obtain ⟨o, eo⟩ := ow.ex
  have len : (L2.start N (.ref a :: us)).length = (envI N.length d0 ds).length := by
    rw [start_len (by rw [List.length_cons]; exact hl)]
    unfold envI envP
    rw [List.length_cons, List.length_append, List.length_map, List.length_replicate, ← rv.length]
    omega
  have low : ∀ (i : Nat) s, (envI N.length d0 ds)[i]? = some s → (i = 0 ∧ s = .io d0) ∨ s = .no ∨ ∃ d v, s = .val d ∧ (L2.start N (.ref a :: us))[i]? = some (some v) ∧ Rp K F v d := by
    intro i s e
    cases i with
    | zero => cases e; exact .inl ⟨rfl, rfl⟩
    | succ i =>
      have e : (envP (N.length - 1) ds)[i]? = some s := e
      rcases envP_get e with rfl | ⟨d, rfl, q⟩
      · exact .inr (.inl rfl)
      · obtain ⟨v, q1, q2⟩ := rv.get' q
        exact .inr (.inr ⟨d, v, rfl, start_get (by simpa using q1), q2⟩)
  refine ⟨len, sub, Same.refl _, fun b n _ => n, fun b o e _ => e, fun b e => e, fun i s e => ?_, fun i j a d e q1 => ?_, fun k b e => ?_, fun i d e => ?_⟩
  · rcases low i s e with ⟨_, rfl⟩ | rfl | ⟨d, v, rfl, q1, q2⟩
    · trivial
    · trivial
    · exact ⟨v, q1, q2⟩
  · rcases low i _ q1 with ⟨_, z⟩ | z | ⟨_, _, z, _⟩ <;> cases z
  · obtain ⟨rfl, rfl⟩ := io0_at e
    exact ⟨by show H b ≠ none; rw [eo]; exact fun z => (by cases z), nF, d0, rfl, start_get (by rfl), ow⟩
  · rcases low i _ e with ⟨rfl, z⟩ | z | ⟨_, _, z, _⟩
    · exact ⟨a, rfl⟩
    · cases z
    · cases z
theorem body_I {N : List Str} {n : Nat} {f : MS} {vs : List V} {H : Hp} {Q : VK} {Ex : XK} (hs : ShS K mg (fun _ => Ex) s1 f) (h : spI K n (runI N.length f) vs H Q Ex) (hn : n + 1 ≤ N.length) : s1 { nx := fun _ H' => Q .non H', rt := Q } (L2.start N vs) H := by
  obtain ⟨hl, F, a, d0, us, ds, rfl, sub, nF, ow, rv, g⟩ := h
  rw [List.length_cons] at hl
  have r := R.startI (N := N) sub nF ow rv (by omega)
  have fin : ∀ {σ' : L2.St} {F' H' : Hp} {ρ : Env}, R K (fm1 H a F) F' σ' H' ρ → (∀ b o, H b = some o → b ≠ a → H' b = some o) ∧ OwnS K F' H' a (ioOf ρ) := fun {σ' F' H' ρ} r' => by
    obtain ⟨_, _, d, q1, _, q3⟩ := r'.io1 0 a rfl
    refine ⟨fun b o e z => r'.kept b o e (io0_ne z), ?_⟩
    unfold ioOf
    rw [q1]
    exact q3
  refine hs (fm1 H a F) F _ H _ _ (fun _ _ _ _ => False) r xw_false ?_
  unfold runI at g
  cases e : f (envI N.length d0 ds) with
  | nx ρ => rw [e] at g; exact fun σ' F' H' r' s' => g .non F' H' s' r'.sub r'.new (fin r').1 (fin r').2 .non
  | rt d ρ => rw [e] at g; exact fun σ' v F' H' r' s' rd => g v F' H' s' r'.sub r'.new (fin r').1 (fin r').2 rd
  | bk ρ => rw [e] at g; exact g.elim
  | ct ρ => rw [e] at g; exact g.elim
  | exc c d ρ => rw [e] at g; exact g.elim
  | stuck => rw [e] at g; exact g.elim
end
end Mi

set_option Elab.async false
set_option linter.all false
set_option maxRecDepth 100000
namespace Mi
open PySem PySem.Spec PyProof.Rows L2
section
variable {K : PySem.W.Frag} {mg : Str → Option Value} {E : L2.St → XK} {ta tb tc te td ty tv : TE} {t u : TT} {tr : TA} {ma mb mc m mk mv : ME} {mt mu' : MT} {ms : List ME} {s1 s2 : TS} {m1 m2 : MS}
/-! dict displays with written keys -/
def mDictL : List (Key × ME) → Env → Res (List (D × D) × Env)
  | [], ρ => .ok ([], ρ)
  | (k, m) :: r, ρ => (m ρ).nx.bind fun p => (mDictL r p.2).bind fun q => .ok ((kD k, p.1) :: q.1, q.2)
def mergeD (kds more : List (D × D)) : List (D × D) := more.foldl (fun acc kv => match keyD kv.1 with | some k => putD acc k kv.2 | none => acc) kds
theorem merge_rp {F : Hp} : ∀ {more : List (Key × V)} {mk : List (D × D)} {kvs : List (Key × V)} {kds : List (D × D)}, RpK K F more mk → RpK K F kvs kds → RpK K F (mergeK kvs more) (mergeD kds mk)
  | _, _, _, _, .nil, r => r
  | _, _, kvs, kds, .cons (k := k) (v := v) (d := d) (vs := vs) (ds := ds) h t, r => by
    have e : keyD (kD k) = some k := by cases k <;> rfl
    have : mergeD kds ((kD k, d) :: ds) = mergeD (putD kds k d) ds := by
      unfold mergeD
      rw [List.foldl_cons, e]
    rw [this]
    show RpK K F (mergeK (putK kvs k v) vs) _
    exact merge_rp t (r.put h)
def ShP (K : PySem.W.Frag) (mg : Str → Option Value) (E : L2.St → XK) (trs : List (TE × TE)) (kms : List (Key × ME)) : Prop := ∀ (Φ : Fm) (F : Hp) (σ : L2.St) (H : Hp) (ρ : Env) (Q : List (V × V) → Hp → Prop), R K Φ F σ H ρ →
  Good (mDictL kms ρ) (fun q => ∀ kvs F' H', R K Φ F' σ H' q.2 → Same F F' → RpK K F' kvs q.1 → kvs.length = kms.length → Q (kvs.map fun kv => (kV kv.1, kv.2)) H') (fun _ _ _ => False) → tPairs trs σ H Q
theorem shp_nil : ShP K mg E [] [] := fun Φ F σ H ρ Q r g => g [] F H r (Same.refl _) .nil rfl
theorem shp_cons {k : Key} {trs : List (TE × TE)} {kms : List (Key × ME)} (h : ShE K mg E te m) (hr : ShP K mg E trs kms) : ShP K mg E ((tC (kV k), te) :: trs) ((k, m) :: kms) := by
  intro Φ F σ H ρ Q r g
  have g1 := Good.nx (W' := fun _ _ _ => False) (Good.bind (r := (m ρ).nx) g)
  refine h Φ F σ H ρ _ (fun _ _ _ _ => False) r xw_false (g1.mono (fun p gp v F1 H1 r1 s1 rv => ?_) fun _ _ _ w => w.elim)
  have g2 := gp.bind
  refine hr Φ F1 σ H1 p.2 _ r1 (g2.mono (fun q gq kvs F2 H2 r2 s2 rk el => ?_) fun _ _ _ w => w.elim)
  exact gq ((k, v) :: kvs) F2 H2 r2 (s1.trans s2) (.cons (rv.mono s2) rk) (by rw [List.length_cons, List.length_cons, el])
def mDict (kms : List (Key × ME)) : ME := fun ρ => (mDictL kms ρ).nx.bind fun q => .ok (.dict (mergeD [] q.1), q.2)
theorem shf_disp {trs : List (TE × TE)} {kms : List (Key × ME)} (h : ShP K mg E trs kms) (hl : kms.length ≤ 15) : ShF K mg E (tDisp trs) (mDict kms) := by
  intro Φ F σ H ρ Q W r x g p np
  have g1 := Good.nx (W' := fun _ _ _ => False) (Good.bind (r := (mDictL kms ρ).nx) g)
  obtain ⟨r1, nF, n0, ap⟩ := r.allocO (o := .dK []) np
  have nF0 : Φ.F0 p = none := r.sub0.free nF
  have ni : ∀ k, Φ.io k ≠ some p := fun k z => absurd n0 (r.io1 k p z).1
  refine h _ F σ _ ρ _ (r1.protect upd_same nF n0 ap) (g1.mono (fun q gq kvs F2 H2 r2 s2 rk el => ?_) fun _ _ _ w => w)
  obtain ⟨e2, nF2, ap2, r3⟩ := r2.unprot (u := .dK (mergeK [] kvs)) n0 nF0 ni
  exact ⟨e2, kvs, rfl, by rw [el]; exact hl, gq p F2 _ r3 s2 nF2 n0 ap2 ⟨_, upd_same, merge_rp rk .nil⟩⟩
/-! an own object or a fixed one, looked at -/
def mPk (j : Nat) (m : ME) (f : D → D → Option D) : ME := fun ρ => match mu ρ j with
  | some _ => mPeek j m f ρ
  | none => mOp f (mVar j) m ρ
theorem sh_pk {r : R2} {f : D → D → Option D} {j : Nat} (ho : PkSh K r f) (h2 : OpSh K r f) (h : ShE K mg E te m) : ShE K mg E (tOp r (tVar j) te) (mPk j m f) := by
  intro Φ F σ H ρ Q W rr x g
  unfold mPk at g
  cases e : mu ρ j with
  | some d0 => rw [e] at g; exact sh_peek ho h Φ F σ H ρ Q W rr x g
  | none => rw [e] at g; exact sh_op h2 (sh_var j) h Φ F σ H ρ Q W rr x g
theorem s_dget : OpSh K (fun x y H Q => ∃ a v, x = .ref a ∧ DGet H a y (some v) ∧ Q v H) fGetD := OpS.sh fun F H x y dx dy d Q s rx ry e q => by
  cases rx <;> try (cases e; done)
  · rename_i a xs ds h1 h2
    have e : (keyD dy).bind (valD [(.none, .list ds)]) = some d := e
    cases ek : keyD dy with
    | none => rw [ek] at e; cases e
    | some k =>
      rw [ek] at e
      have e : valD [(.none, .list ds)] k = some d := e
      unfold valD at e
      cases k <;> simp [eqK] at e
  · rename_i a kvs ds h1 h2
    obtain ⟨v, g1, g2⟩ := fGetD_ok (s _ _ h1) h2 ry e
    exact ⟨a, v, rfl, g1, q v g2⟩
theorem pk_dget : PkSh K (fun x y H Q => ∃ a v, x = .ref a ∧ DGet H a y (some v) ∧ Q v H) fGetD := fun F H a y d dy z Q s ow ry e q => by
  cases d <;> first | (cases e; done) | skip
  obtain ⟨kvs, h1, h2⟩ := ow
  obtain ⟨v, g1, g2⟩ := fGetD_ok h1 h2 ry e
  exact ⟨a, v, rfl, g1, q v g2⟩
def mGetV (j : Nat) (mk : ME) : ME := mPk j mk fGetD
theorem sh_getV {j : Nat} (hk : ShE K mg E ty mk) : ShE K mg E (tDGet (tVar j) ty) (mGetV j mk) :=
  (show ShE K mg E (tOp (fun x y H Q => ∃ a v, x = .ref a ∧ DGet H a y (some v) ∧ Q v H) (tVar j) ty) (mGetV j mk) from sh_pk pk_dget s_dget hk)
def mIxV (j : Nat) (mi : ME) : ME := mPk j mi fIxL
theorem sh_ixV {j : Nat} (hk : ShE K mg E ty mk) : ShE K mg E (tOp (rIxL K) (tVar j) ty) (mIxV j mk) := sh_pk pk_ixL s_ixL hk
def mLenV (j : Nat) : ME := fun ρ => match mu ρ j with
  | some (.list ds) => .ok (.int ds.length, ρ)
  | some _ => .stuck
  | none => mCB cbLen [mVar j] ρ
theorem sh_lenV {j : Nat} : ShE K mg E (tCB (fun xs H Q => ∃ p ys, xs = [.ref p] ∧ (SqL K H p ys ∨ SqT K H p ys) ∧ Q (.int ys.length) H) (tCons (tVar j) tNil)) (mLenV j) := by
  intro Φ F σ H ρ Q W r x g
  unfold mLenV at g
  cases e : mu ρ j with
  | none => rw [e] at g; exact sh_cb cs_len (sha_cons (sh_var j) sha_nil) Φ F σ H ρ Q W r x g
  | some d =>
    rw [e] at g
    cases d <;> first | (exact False.elim g) | skip
    obtain ⟨a, ea, _, vs, h1, h2⟩ := r.mu e
    exact ⟨_, ea, _, _, rfl, .inl (SqL.of h1), by rw [h2.length]; exact g _ F H r (Same.refl _) (.int _)⟩
/-! stars in a display -/
inductive AI where
  | one (m : ME)
  | star (m : ME)
def mAS : List AI → MA
  | [] => fun ρ => .ok ([], ρ)
  | .one m :: ms => fun ρ => (m ρ).bind fun p => (mAS ms p.2).bind fun q => .ok (p.1 :: q.1, q.2)
  | .star m :: ms => fun ρ => (m ρ).bind fun p => match itemsD p.1 with
    | some ds => (mAS ms p.2).bind fun q => .ok (ds ++ q.1, q.2)
    | none => .stuck
def ShAS (K : PySem.W.Frag) (mg : Str → Option Value) (E : L2.St → XK) (t : TA) (ms : List AI) : Prop := ∀ (Φ : Fm) (F : Hp) (σ : L2.St) (H : Hp) (ρ : Env) (Q : List V → Hp → Prop) (W : WXm), R K Φ F σ H ρ → XW K mg Φ E W →
  Good (mAS ms ρ) (fun p => ∀ vs F' H', R K Φ F' σ H' p.2 → Same F F' → RpA K F' vs p.1 → Q vs H') (up F W) → t σ H Q
variable {as : List AI}
theorem shas_nil : ShAS K mg E tNil [] := fun Φ F σ H ρ Q W r x g => g [] F H r (Same.refl _) .nil
theorem shas_one (ha : ShE K mg E te m) (hr : ShAS K mg E tr as) : ShAS K mg E (tCons te tr) (.one m :: as) := by
  intro Φ F σ H ρ Q W r x g
  refine ha Φ F σ H ρ _ W r x ((Good.bind (r := m ρ) g).mono (fun p gp v F1 H1 r1 s1 rv => ?_) fun _ _ _ w => w)
  refine hr Φ F1 σ H1 p.2 _ W r1 x (gp.bind.mono (fun q gq vs F2 H2 r2 s2 rvs => ?_) fun _ _ _ w => up.weak s1 w)
  exact gq (v :: vs) F2 H2 r2 (s1.trans s2) (.cons (rv.mono s2) rvs)
theorem shas_star (ha : ShE K mg E te m) (hr : ShAS K mg E tr as) : ShAS K mg E (StX.tStar K te tr) (.star m :: as) := by
  intro Φ F σ H ρ Q W r x g
  refine ha Φ F σ H ρ _ W r x ((Good.bind (r := m ρ) g).mono (fun p gp v F1 H1 r1 s1 rv => ?_) fun _ _ _ w => w)
  obtain ⟨d, ρ'⟩ := p
  cases rv <;> try (exact False.elim gp)
  · rename_i a xs ds h1 h2
    refine ⟨a, xs, rfl, .inr (SqL.of (r1.sub _ _ h1)), ?_⟩
    refine hr Φ F1 σ H1 ρ' _ W r1 x (Good.bind (r := mAS as ρ') gp |>.mono (fun q gq vs F2 H2 r2 s2 rvs => ?_) fun _ _ _ w => up.weak s1 w)
    exact gq (xs ++ vs) F2 H2 r2 (s1.trans s2) ((h2.mono s2).append rvs)
  · rename_i a xs ds h1 h2
    refine ⟨a, xs, rfl, .inl (r1.sub.seqT h1), ?_⟩
    refine hr Φ F1 σ H1 ρ' _ W r1 x (Good.bind (r := mAS as ρ') gp |>.mono (fun q gq vs F2 H2 r2 s2 rvs => ?_) fun _ _ _ w => up.weak s1 w)
    exact gq (xs ++ vs) F2 H2 r2 (s1.trans s2) ((h2.mono s2).append rvs)
def mTupS (as : List AI) : ME := fun ρ => (mAS as ρ).bind fun p => if p.1.length ≤ 16777216 then .ok (.tuple p.1, p.2) else .stuck
theorem sh_tupS (h : ShAS K mg E tr as) : ShE K mg E (tTup tr) (mTupS as) := by
  intro Φ F σ H ρ Q W r x g
  refine h Φ F σ H ρ _ W r x ((Good.bind (r := mAS as ρ) g).mono (fun p gp vs F1 H1 r1 s1 rv => ?_) fun _ _ _ w => w)
  split at gp
  · refine ⟨by rw [rv.length, sizeLine_eq]; assumption, fun a na => ?_⟩
    obtain ⟨r2, s2⟩ := r1.alloc (o := .tup vs) na
    exact gp _ _ _ r2 (s1.trans s2) (.tup (SqT.of upd_same) (rv.mono s2))
  · exact gp.elim
/-! texts -/
def fAddS : D → D → Option D
  | .str a, .str b => if a.length + b.length ≤ 16777216 then some (.str (a ++ b)) else none
  | _, _ => none
theorem s_addS : OpSh K (fun x y H Q => ∃ i j, x = .str i ∧ y = .str j ∧ i.length + j.length ≤ sizeLine ∧ Q (.str (i ++ j)) H) fAddS := OpS.sh fun F H x y dx dy d Q s rx ry e q => by
  unfold fAddS at e
  split at e
  · split at e
    · cases rx; cases ry; cases e
      exact ⟨_, _, rfl, rfl, by rw [sizeLine_eq]; assumption, q _ (.str _)⟩
    · cases e
  · cases e
def cbStr : List D → Option D
  | [.int i] => if i.natAbs.log2 < 1920 then some (.str (toString i)) else none
  | _ => none
theorem cs_str : CbSh K (fun xs H Q => ∃ i, xs = [.int i] ∧ i.natAbs.log2 < 1920 ∧ Q (.str (toString i)) H) cbStr := CbS.sh fun F H xs ds d Q s rx e q => by
  unfold cbStr at e
  split at e
  · obtain ⟨v, rfl, hv⟩ := one_rp rx
    split at e
    · cases e; cases hv
      exact ⟨_, rfl, by assumption, q _ (.str _)⟩
    · cases e
  · cases e
def cbLenS : List D → Option D
  | [.str z] => if z.length ≤ 16777216 then some (.int z.length) else none
  | _ => none
theorem cs_lenS : CbSh K (fun xs H Q => ∃ z, xs = [.str z] ∧ z.length ≤ sizeLine ∧ Q (.int z.length) H) cbLenS := CbS.sh fun F H xs ds d Q s rx e q => by
  unfold cbLenS at e
  split at e
  · obtain ⟨v, rfl, hv⟩ := one_rp rx
    split at e
    · cases e; cases hv
      exact ⟨_, rfl, by rw [sizeLine_eq]; assumption, q _ (.int _)⟩
    · cases e
  · cases e
/-- a def that hands back a new object -/
def runF (N : Nat) (m : MS) : MF := runP N m
def ShFs (K : PySem.W.Frag) (mg : Str → Option Value) (E : L2.St → XK) (t : TE) (m : ME) : Prop := ShF K mg E t m
theorem body_F {N : List Str} {n : Nat} {m : ME} {vs : List V} {H : Hp} {Q : VK} {Ex : XK} (hs : ShF K mg (fun _ => Ex) te m) (h : spF K n (runP N.length (mRet m)) vs H Q Ex) (hn : n ≤ N.length) : tRet te { nx := fun _ H' => Q .non H', rt := Q } (L2.start N vs) H := by
  obtain ⟨hl, F, ds, sub, rv, g⟩ := h
  have r := R.startP (N := N) sub rv (by omega)
  refine hs (fm0 H F) F _ H _ _ (fun _ _ _ _ => False) r xw_false ?_
  unfold runP mRet at g
  cases e : m (envP N.length ds) with
  | ok p => rw [e] at g; exact fun a F' H' r' s' nF n0 _ ow => g a F' H' s' r'.sub r'.new (fun b o e => r'.kept b o e (fun _ z => by cases z)) nF n0 ow
  | exc c d ρ => rw [e] at g; exact g.elim
  | stuck => rw [e] at g; exact g.elim
/-! the law -/
def spLaw (K : PySem.W.Frag) : Sp := fun vs H Q _ => ∃ (a : Addr) (ns : List Int), vs = [.ref a] ∧ SqL K H a (ns.map V.int) ∧ ns.length ≤ 63 ∧ ∀ H', Q (.bl true) H'
def scr (ns : List Int) : D := .dict [(.none, .list (ns.map .int))]
theorem body_law {N : List Str} {f : MS} {vs : List V} {H : Hp} {Q : VK} {Ex : XK} (hs : ShS K mg (fun _ => Ex) s1 f) (h : spLaw K vs H Q Ex) (hn : 1 ≤ N.length) (hf : ∀ ns : List Int, ns.length ≤ 63 → runP N.length f [scr ns] = .ok (.bool true)) :
    s1 { nx := fun _ H' => Q .non H', rt := Q } (L2.start N vs) H := by
  obtain ⟨a, ns, rfl, hS, hl, q⟩ := h
  refine body_P (n := 1) hs ⟨rfl, H, [scr ns], Same.refl _, .cons (.scr hS (RpA.ofInts ns)) .nil, ?_⟩ hn
  rw [hf ns hl]
  intro v F' H' _ _ _ _ rv
  cases rv
  exact q H'
end
end Mi

set_option Elab.async false
set_option linter.all false
set_option maxRecDepth 100000
namespace Mi
open PySem PySem.Spec PyProof.Rows L2
section
variable {K : PySem.W.Frag} {mg : Str → Option Value} {E : L2.St → XK} {ta tb tc te td ty tv : TE} {t u : TT} {tr : TA} {ma mb mc m mk mv : ME} {mt mu' : MT} {ms : List ME} {s1 s2 : TS} {m1 m2 : MS}
/-! own errors: their making -/
theorem RpK.rev {F : Hp} : ∀ {a : List (Key × V)} {c : List (D × D)}, RpK K F a c → RpK K F a.reverse c.reverse
  | _, _, .nil => .nil
  | _, _, .cons h r => by rw [List.reverse_cons, List.reverse_cons]; exact (RpK.rev r).append (.cons h .nil)
def xfs (names : List Str) (ws : List V) : List (Str × V) := (names.zip ws).reverse
def spInit (K : PySem.W.Frag) (names : List Str) : Sp := fun vs H Q _ => vs.length = names.length + 1 ∧ ∃ (a C : Addr) (ws : List V), vs = .ref a :: ws ∧ OexC K C ∧ (∀ f ∈ names, PySem.W.findIn K (.ref C) f = some none) ∧ H a = some (exo a C none) ∧
  ∀ dx, H dx = none → dx ≠ a → Q .non (upd (upd H dx (exd dx (xfs names ws))) a (exo a C (some dx)))
theorem init1 {f : Str} {N : List Str} {vs : List V} {H : Hp} {Q : VK} {Ex : XK} (h : spInit K [f] vs H Q Ex) : tOst K f (tVar 0) (tVar 1) { nx := fun _ H' => Q .non H', rt := Q } (L2.start N vs) H := by
  obtain ⟨hl, a, C, ws, rfl, T, no, ha, q⟩ := h
  match ws, hl with
  | [v], _ =>
    refine ⟨v, start_get rfl, .ref a, start_get rfl, a, C, rfl, T, no f (List.mem_cons_self ..), .inl ⟨ha, fun dx n ne => ?_⟩⟩
    exact q dx n ne
theorem init2 {f g : Str} {N : List Str} {vs : List V} {H : Hp} {Q : VK} {Ex : XK} (h : spInit K [f, g] vs H Q Ex) : tSeq (tOst K f (tVar 0) (tVar 1)) (tOst K g (tVar 0) (tVar 2)) { nx := fun _ H' => Q .non H', rt := Q } (L2.start N vs) H := by
  obtain ⟨hl, a, C, ws, rfl, T, no, ha, q⟩ := h
  match ws, hl with
  | [v, w], _ =>
    refine ⟨v, start_get rfl, .ref a, start_get rfl, a, C, rfl, T, no f (List.mem_cons_self ..), .inl ⟨ha, fun dx n ne => ?_⟩⟩
    refine ⟨w, start_get rfl, .ref a, start_get rfl, a, C, rfl, T, no g (List.mem_cons_of_mem _ (List.mem_cons_self ..)), .inr ⟨dx, [(f, v)], upd_same, by rw [upd_ne ne]; exact upd_same, by simp, ?_⟩⟩
    have e : upd (upd (upd H dx (exd dx [(f, v)])) a (exo a C (some dx))) dx (exd dx [(g, w), (f, v)]) = upd (upd H dx (exd dx [(g, w), (f, v)])) a (exo a C (some dx)) := by
      funext b
      by_cases h1 : b = dx
      · subst h1; rw [upd_same, upd_ne ne, upd_same]
      · rw [upd_ne h1]
        by_cases h2 : b = a
        · subst h2; rw [upd_same, upd_same]
        · rw [upd_ne h2, upd_ne h1, upd_ne h2, upd_ne h1]
    rw [e]
    exact q dx n ne
theorem xfs_rp {F : Hp} : ∀ {names : List Str} {ws : List V} {ds : List D}, RpA K F ws ds → names.length = ws.length → RpX K F (xfs names ws) (.dict ((names.zip ds).reverse.map fun p => (.str p.1, p.2))) := by
  have zip : ∀ {names : List Str} {ws : List V} {ds : List D}, RpA K F ws ds → RpK K F ((names.zip ws).map fun p => ((.inr p.1 : Key), p.2)) ((names.zip ds).map fun p => (.str p.1, p.2)) := by
    intro names
    induction names with
    | nil => intro ws ds _; exact .nil
    | cons n names ih =>
      intro ws ds h
      cases h with
      | nil => exact .nil
      | cons h1 h2 => exact .cons (k := .inr n) h1 (ih h2)
  intro names ws ds h _
  refine ⟨_, rfl, ?_⟩
  unfold xfs
  rw [List.map_reverse, List.map_reverse]
  exact (zip h).rev
def mRaise (c : Str) (names : List Str) (ms : List ME) : MS := fun ρ => (mA ms ρ).out fun p => .exc c (.dict ((names.zip p.1).reverse.map fun q => (.str q.1, q.2))) p.2
theorem shs_raise {c : Str} {names : List Str} {C : Addr} (h : ShA K mg E tr ms) (hl : ms.length = names.length) (hn : names.length ≤ 1000) (gC : mg c = some (.ref C)) (T : OexC K C) (no : ∀ f ∈ names, PySem.W.findIn K (.ref C) f = some none) :
    ShS K mg E (fun _ σ H => tMkO C (spInit K names) [] tr σ H fun cls d H' => E σ cls d H') (mRaise c names ms) := by
  intro Φ F σ H ρ De W r x g
  refine h Φ F σ H ρ _ W r x ((GoodS.out (r := mA ms ρ) g).mono (fun p gp vs F1 H1 r1 s1 rv el => ?_) fun _ _ _ w => w)
  refine ⟨by rw [el, hl]; exact hn, fun a na => ?_⟩
  rw [List.append_nil]
  refine ⟨by rw [List.length_cons, el, hl], a, C, vs, rfl, T, no, upd_same, fun dx nd ne => ?_⟩
  have nd1 : H1 dx = none := by rw [upd_ne ne] at nd; exact nd
  refine ⟨rfl, dx, _, upd_same, by rw [upd_ne ne]; exact upd_same, nd1, ?_⟩
  have e : upd (del (upd (upd (upd H1 a (exo a C none)) dx (exd dx (xfs names vs))) a (exo a C (some dx))) a) dx (.xd (xfs names vs)) = upd H1 dx (.xd (xfs names vs)) := by
    funext b
    by_cases h1 : b = dx
    · subst h1; rw [upd_same, upd_same]
    · rw [upd_ne h1, upd_ne h1]
      by_cases h2 : b = a
      · subst h2; rw [del_same, na]
      · rw [del_ne h2, upd_ne h2, upd_ne h1, upd_ne h2]
  rw [e]
  obtain ⟨r2, nF, n0, _⟩ := r1.allocO (o := .xd (xfs names vs)) nd1
  exact x c _ p.2 F1 σ _ C dx (xfs names vs) r2 gC upd_same nF n0 (xfs_rp rv (by rw [el, hl])) (gp F1 s1)
/-! calls of defs that may raise -/
def mCallX (f : MF) (ms : List ME) : ME := fun ρ => (mA ms ρ).bind fun p => match f p.1 with
  | .ok d => .ok (d, p.2)
  | .exc c d _ => .exc c d p.2
  | .stuck => .stuck
theorem sh_callX {f : MF} {n : Nat} {Ec : L2.St → XK} (h : ShA K mg E tr ms) (hl : ms.length = n) (hE : ∀ σ cls d H, E σ cls d H → Ec σ cls d H) : ShE K mg E (tCallS (spP K mg n f) Ec tr) (mCallX f ms) := by
  intro Φ F σ H ρ Q W r x g
  refine h Φ F σ H ρ _ W r x ((Good.bind (r := mA ms ρ) g).mono (fun p gp vs F1 H1 r1 s1 rv el => ?_) fun _ _ _ w => w)
  refine ⟨by rw [el, hl], F1, p.1, r1.sub, rv, ?_⟩
  cases e : f p.1 with
  | ok d =>
    rw [e] at gp
    exact fun v F' H' sF sH nw kp rd => gp v F' H' (r1.grow sF sH nw kp) (s1.trans sF) rd
  | exc c d ρ' =>
    rw [e] at gp
    intro C dx fs F' H' sF sH nw kp gC ex nF n0 rx
    have r2 := r1.grow sF sH nw kp
    exact hE _ _ _ _ (x c d p.2 F' σ H' C dx fs r2 gC ex nF (r1.dom dx n0) rx (gp F' (s1.trans sF)))
  | stuck => rw [e] at gp; exact gp.elim
/-! try .. except X as n: return n.f -/
def fieldD (d : D) (f : Str) : Option D := match d with
  | .dict kds => valD kds (.inr f)
  | _ => none
theorem look_rp {F : Hp} {f : Str} {z : D} : ∀ {fs : List (Str × V)} {kds : List (D × D)}, RpK K F (fs.map fun p => ((.inr p.1 : Key), p.2)) kds → valD kds (.inr f) = some z → ∃ v, fs.lookup f = some v ∧ Rp K F v z
  | [], _, .nil, e => by cases e
  | (g, v) :: fs, _, .cons h r, e => by
    unfold valD at e
    rw [List.find?_cons] at e
    simp only [eqK_kD] at e
    by_cases q : g = f
    · subst q
      simp at e
      subst e
      exact ⟨v, by simp [List.lookup], h⟩
    · have q2 : ¬ (Sum.inr g : Key) = Sum.inr f := fun w => q (Sum.inr.inj w)
      rw [decide_eq_false q2] at e
      obtain ⟨v', h1, h2⟩ := look_rp (f := f) (fs := fs) r e
      have q3 : (f == g) = false := by simpa using fun w : f = g => q w.symm
      exact ⟨v', by simp [List.lookup, q3, h1], h2⟩
/-- what the clause's suite makes of the error's fields, when it hands something back -/
def mTryF (c : Str) (i : Nat) (g : D → Option D) (mb : MS) : MS := fun ρ => match mb ρ with
  | .exc c' d ρ' => if c' = c ∧ i < ρ'.length ∧ notIo ρ' i = true then (match g d with | some z => .rt z (ρ'.set i .no) | none => .stuck) else .stuck
  | o => o
/-- a suite that hands back g of the error -/
def SuF (K : PySem.W.Frag) (C : Addr) (i : Nat) (g : D → Option D) (ts : Addr → Value → Option Addr → TS) : Prop := ∀ (Φ : Fm) (a dd : Addr) (F : Hp) (σ : L2.St) (H : Hp) (ρ : Env) (De : Ends) (fs : List (Str × V)) (d z : D), R K Φ F σ H ρ → σ[i]? = some (some (.ref a)) →
  H dd = some (.xd fs) → RpX K F fs d → g d = some z → (∀ v F' H', R K Φ F' σ H' ρ → Same F F' → Rp K F' v z → De.rt v H') → ts a (.ref C) (some dd) De σ H
theorem su_field {C : Addr} {i : Nat} {f : Str} : SuF K C i (fun d => fieldD d f) (fun a cls d => tRet (tXf a cls d C f (tVar i))) := by
  intro Φ a dd F σ H ρ De fs d z r ea ed rx e q
  obtain ⟨kds, rfl, rk⟩ := rx
  obtain ⟨v, l, rv⟩ := look_rp rk e
  exact ⟨_, ea, rfl, rfl, dd, fs, v, rfl, ed, l, q v F H r (Same.refl _) rv⟩
theorem su_two {C : Addr} {i : Nat} {f g : Str} : SuF K C i (fun d => (fieldD d f).bind fun x => (fieldD d g).map fun y => .tuple [x, y]) (fun a cls d => tRet (tTup (tCons (tXf a cls d C f (tVar i)) (tCons (tXf a cls d C g (tVar i)) tNil)))) := by
  intro Φ a dd F σ H ρ De fs d z r ea ed rx e q
  obtain ⟨kds, rfl, rk⟩ := rx
  have e : ((fieldD (.dict kds) f).bind fun x => (fieldD (.dict kds) g).map fun y => PyData.tuple [x, y]) = some z := e
  cases e1 : fieldD (.dict kds) f with
  | none => rw [e1] at e; cases e
  | some x =>
    rw [e1] at e
    cases e2 : fieldD (.dict kds) g with
    | none => simp [e2] at e
    | some y =>
      simp [e2] at e
      subst e
      obtain ⟨v, l, rv⟩ := look_rp rk e1
      obtain ⟨w, l2, rw'⟩ := look_rp rk e2
      refine ⟨_, ea, rfl, rfl, dd, fs, v, rfl, ed, l, _, ea, rfl, rfl, dd, fs, w, rfl, ed, l2, by show 2 ≤ sizeLine; rw [sizeLine_eq]; decide, fun p np => ?_⟩
      obtain ⟨r2, s2⟩ := r.alloc (o := .tup [v, w]) np
      exact q _ _ _ r2 s2 (.tup (SqT.of upd_same) (.cons (rv.mono s2) (.cons (rw'.mono s2) .nil)))
theorem su_tag {C : Addr} {i : Nat} {f : Str} {c : Str} : SuF K C i (fun d => (fieldD d f).map fun y => .tuple [.str c, y]) (fun a cls d => tRet (tTup (tCons (tC (.str c)) (tCons (tXf a cls d C f (tVar i)) tNil)))) := by
  intro Φ a dd F σ H ρ De fs d z r ea ed rx e q
  obtain ⟨kds, rfl, rk⟩ := rx
  have e : ((fieldD (.dict kds) f).map fun y => PyData.tuple [.str c, y]) = some z := e
  cases e2 : fieldD (.dict kds) f with
  | none => rw [e2] at e; cases e
  | some y =>
    rw [e2] at e
    cases e
    obtain ⟨w, l2, rw'⟩ := look_rp rk e2
    refine ⟨_, ea, rfl, rfl, dd, fs, w, rfl, ed, l2, by show 2 ≤ sizeLine; rw [sizeLine_eq]; decide, fun p np => ?_⟩
    obtain ⟨r2, s2⟩ := r.alloc (o := .tup [.str c, w]) np
    exact q _ _ _ r2 s2 (.tup (SqT.of upd_same) (.cons (.str _) (.cons (rw'.mono s2) .nil)))
theorem set_no {Φ : Fm} {F H : Hp} {σ : L2.St} {ρ : Env} (r : R K Φ F σ H ρ) {i : Nat} {o : Option V} (n : notIo ρ i = true) : R K Φ F (σ.set i o) H (ρ.set i .no) := by
  refine r.reslot (by rw [List.length_set, List.length_set, r.len]) (fun j s e => ?_) fun k a e => ?_
  · rcases getset e with ⟨_, rfl, _⟩ | ⟨z, e'⟩
    · exact .inl rfl
    · exact .inr (.inr ⟨e', List.getElem?_set_ne z⟩)
  · have z := r.io_not n e
    exact ⟨List.getElem?_set_ne z, List.getElem?_set_ne z⟩
theorem shs_tryF {tb : WX → TS} {ts : Addr → Value → Option Addr → TS} {Wout : WX} {c : Str} {C : Addr} {i : Nat} {g : D → Option D} {mb : MS} (hb : ∀ W : WX, ShS K mg (fun σ cls d H => W cls d σ H) (tb W) mb) (gC : mg c = some (.ref C)) (te : PySem.W.exmOne K (.ref C) (.ref C) = some true)
    (hs : SuF K C i g ts) : ShS K mg E (fun D σ H => tb (wAs K (.ref C) i ts Wout D) D σ H) (mTryF c i g mb) := by
  intro Φ F σ H ρ De W r x gg
  refine hb (wAs K (.ref C) i ts Wout De) Φ F σ H ρ De (fun c' d F' ρ' => Same F F' ∧ GoodS K Φ F' De W (if c' = c ∧ i < ρ'.length ∧ notIo ρ' i = true then (match g d with | some z => .rt z (ρ'.set i .no) | none => .stuck) else .stuck)) r ?_ ?_
  · intro c' d ρ' F' σ' H' C' dx fs r' em ex nF n0 rx w
    obtain ⟨sF, w⟩ := w
    split at w
    · rename_i q
      obtain ⟨rfl, hil, ni⟩ := q
      rw [gC] at em
      cases em
      cases eg : g d with
      | none => rw [eg] at w; exact w.elim
      | some z =>
        rw [eg] at w
        refine ⟨true, te, fun _ a na => ?_, fun q => Bool.noConfusion q⟩
        have r2 := set_no (o := some (.ref a)) r' ni
        refine hs Φ a dx F' _ H' _ _ fs d z r2 (by rw [List.getElem?_set_self (by rw [r'.len]; exact hil)]) ex rx eg fun v F2 H2 r3 s3 rv => ?_
        exact w _ v F2 H2 r3 s3 rv
    · exact w.elim
  · unfold mTryF at gg
    cases e : mb ρ with
    | exc c' d ρ' => rw [e] at gg; exact fun F' s => ⟨s, gg.weak s⟩
    | nx ρ' => rw [e] at gg; exact gg
    | rt d ρ' => rw [e] at gg; exact gg
    | bk ρ' => rw [e] at gg; exact gg
    | ct ρ' => rw [e] at gg; exact gg
    | stuck => rw [e] at gg; exact gg
end
end Mi
namespace Mi
open PySem PySem.Spec PyProof.Rows L2
section
variable {K : PySem.W.Frag} {mg : Str → Option Value}
theorem rp_tupK {F : Hp} {a : Addr} {dd : Option Addr} {its : Array Value} {n : Nat} {sl : Array (Option Value)} {xs : List V} {ds : List D} (h : K.lookup a = some ⟨.type "tuple", dd, .seq its n, sl⟩) (hz : its.size ≤ 16777216) (hv : Vals xs its.toList) (r : RpA K F xs ds) : Rp K F (.ref a) (.tuple ds) :=
  .tup (.inr ⟨_, its, n, h, rfl, rfl, by rw [sizeLine_eq]; exact hz, hv⟩) r
/-- what the top has left of an own error's class -/
structure ExcT (K : PySem.W.Frag) (mg : Str → Option Value) (c : Str) (names ps : List Str) (st : Stmt) (qual : Str) (C : Addr) : Prop where
  gC : mg c = some (.ref C)
  T : OexC K C
  no : ∀ f ∈ names, PySem.W.findIn K (.ref C) f = some none
  xf : XfC K C
  te : PySem.W.exmOne K (.ref C) (.ref C) = some true
  ini : ∃ (f : Addr) (fd : FuncData), PySem.W.findIn K (.ref C) "__init__" = some (some (.ref f)) ∧ PySem.W.typeIn K (.ref f) = some (.type "function") ∧ Fun K "__init__" qual st f fd ∧ L2.Binds K fd ps []
theorem exm_self {K : PySem.W.Frag} {S : Addr} (h1 : PySem.W.subIn K (.ref S) (.type "BaseException") = some true) (h2 : PySem.W.isClsIn K S = true) (h3 : PySem.W.typeIn K (.ref S) = some (.type "type")) (h4 : PySem.W.subIn K (.ref S) (.ref S) = some true) :
    PySem.W.exmOne K (.ref S) (.ref S) = some true := by
  have e1 : (PySem.W.subIn K (.ref S) (.type "BaseException") == some true) = true := by rw [h1] <;> rfl
  have e2 : ((PySem.W.clsIn K S).isSome && PySem.W.typeIn K (.ref S) == some (.type "type")) = true := by
    have h2' : (PySem.W.clsIn K S).isSome = true := h2
    rw [h2', h3] <;> rfl
  show (if (PySem.W.subIn K (.ref S) (.type "BaseException") == some true) = true then (if ((PySem.W.clsIn K S).isSome && PySem.W.typeIn K (.ref S) == some (.type "type")) = true then PySem.W.subIn K (.ref S) (.ref S) else none) else none) = some true
  rw [if_pos e1, if_pos e2]
  exact h4
end
end Mi
namespace Mi
open PySem PySem.Spec PyProof.Rows L2
section
variable {K : PySem.W.Frag} {mg : Str → Option Value} {X : Cx} {body : List Stmt} {s1 : TS} {N : List Str} {n : Nat} {f : MS} {vs : List V} {H : Hp} {Q : VK} {Ex : XK}
theorem fin_P (pe : PSs X body s1) (hs : ShS K mg (fun _ => Ex) s1 f) (h : spP K mg n (runP N.length f) vs H Q Ex) (hn : n ≤ N.length) : ∃ t, PSs X body t ∧ t { nx := fun _ H' => Q .non H', rt := Q } (L2.start N vs) H := ⟨s1, pe, body_P hs h hn⟩
theorem fin_I (pe : PSs X body s1) (hs : ShS K mg (fun _ => Ex) s1 f) (h : spI K n (runI N.length f) vs H Q Ex) (hn : n + 1 ≤ N.length) : ∃ t, PSs X body t ∧ t { nx := fun _ H' => Q .non H', rt := Q } (L2.start N vs) H := ⟨s1, pe, body_I hs h hn⟩
theorem fin_F {te : TE} {m : ME} (pe : PSs X body (tRet te)) (hs : ShF K mg (fun _ => Ex) te m) (h : spF K n (runP N.length (mRet m)) vs H Q Ex) (hn : n ≤ N.length) : ∃ t, PSs X body t ∧ t { nx := fun _ H' => Q .non H', rt := Q } (L2.start N vs) H := ⟨_, pe, body_F hs h hn⟩
theorem fin_law (pe : PSs X body s1) (hs : ShS K mg (fun _ => Ex) s1 f) (h : Mi.spLaw K vs H Q Ex) (hn : 1 ≤ N.length) (hf : ∀ ns : List Int, ns.length ≤ 63 → runP N.length f [scr ns] = .ok (.bool true)) : ∃ t, PSs X body t ∧ t { nx := fun _ H' => Q .non H', rt := Q } (L2.start N vs) H := ⟨s1, pe, body_law hs h hn hf⟩
end
end Mi

set_option Elab.async false
set_option linter.all false
set_option maxRecDepth 100000
namespace Mi
open PySem PySem.Spec PyProof.Rows L2
/-! ### what a mirror comes to -/
def Sat (r : Res (D × Env)) (Q : D → Env → Prop) : Prop := ∃ d ρ, r = .ok (d, ρ) ∧ Q d ρ
def SatT (r : Res (Bool × Env)) (Q : Bool → Env → Prop) : Prop := ∃ b ρ, r = .ok (b, ρ) ∧ Q b ρ
def SatA (r : Res (List D × Env)) (Q : List D → Env → Prop) : Prop := ∃ d ρ, r = .ok (d, ρ) ∧ Q d ρ
def SatO (r : Res (Option Int × Env)) (Q : Option Int → Env → Prop) : Prop := ∃ d ρ, r = .ok (d, ρ) ∧ Q d ρ
def SatP (r : Res D) (Q : D → Prop) : Prop := ∃ d, r = .ok d ∧ Q d
def SatI (r : Res (D × D)) (Q : D → D → Prop) : Prop := ∃ d e, r = .ok (d, e) ∧ Q d e
def SatS (o : Out) (N : Env → Prop) (Rt : D → Env → Prop) (B C : Env → Prop) (Xp : Str → D → Env → Prop) : Prop := match o with
  | .exc c d ρ => Xp c d ρ
  | .nx ρ => N ρ
  | .rt d ρ => Rt d ρ
  | .bk ρ => B ρ
  | .ct ρ => C ρ
  | _ => False
/-- the value of an operator by values -/
def VAL (o : Option D) (Q : D → Prop) : Prop := ∃ d, o = some d ∧ Q d
def LK (ρ : Env) (i : Nat) (s : Sl) : Prop := ρ[i]? = some s
def SETS (ρ : Env) (N : Env → Prop) : Prop := N ρ
def TG (o : Option Env) (N : Env → Prop) : Prop := ∃ ρ, o = some ρ ∧ N ρ
theorem st0 { z y : Sl} {r : Env} {N : Env → Prop} (q : N (y :: r)) : SETS (List.set (z :: r) 0 y) N := q
theorem lk0 { y : Sl} {r : Env} : LK (y :: r) 0 y := rfl
theorem st1 {x0 z y : Sl} {r : Env} {N : Env → Prop} (q : N (x0 :: y :: r)) : SETS (List.set (x0 :: z :: r) 1 y) N := q
theorem lk1 {x0 y : Sl} {r : Env} : LK (x0 :: y :: r) 1 y := rfl
theorem st2 {x0 x1 z y : Sl} {r : Env} {N : Env → Prop} (q : N (x0 :: x1 :: y :: r)) : SETS (List.set (x0 :: x1 :: z :: r) 2 y) N := q
theorem lk2 {x0 x1 y : Sl} {r : Env} : LK (x0 :: x1 :: y :: r) 2 y := rfl
theorem st3 {x0 x1 x2 z y : Sl} {r : Env} {N : Env → Prop} (q : N (x0 :: x1 :: x2 :: y :: r)) : SETS (List.set (x0 :: x1 :: x2 :: z :: r) 3 y) N := q
theorem lk3 {x0 x1 x2 y : Sl} {r : Env} : LK (x0 :: x1 :: x2 :: y :: r) 3 y := rfl
theorem st4 {x0 x1 x2 x3 z y : Sl} {r : Env} {N : Env → Prop} (q : N (x0 :: x1 :: x2 :: x3 :: y :: r)) : SETS (List.set (x0 :: x1 :: x2 :: x3 :: z :: r) 4 y) N := q
theorem lk4 {x0 x1 x2 x3 y : Sl} {r : Env} : LK (x0 :: x1 :: x2 :: x3 :: y :: r) 4 y := rfl
theorem st5 {x0 x1 x2 x3 x4 z y : Sl} {r : Env} {N : Env → Prop} (q : N (x0 :: x1 :: x2 :: x3 :: x4 :: y :: r)) : SETS (List.set (x0 :: x1 :: x2 :: x3 :: x4 :: z :: r) 5 y) N := q
theorem lk5 {x0 x1 x2 x3 x4 y : Sl} {r : Env} : LK (x0 :: x1 :: x2 :: x3 :: x4 :: y :: r) 5 y := rfl
theorem st6 {x0 x1 x2 x3 x4 x5 z y : Sl} {r : Env} {N : Env → Prop} (q : N (x0 :: x1 :: x2 :: x3 :: x4 :: x5 :: y :: r)) : SETS (List.set (x0 :: x1 :: x2 :: x3 :: x4 :: x5 :: z :: r) 6 y) N := q
theorem lk6 {x0 x1 x2 x3 x4 x5 y : Sl} {r : Env} : LK (x0 :: x1 :: x2 :: x3 :: x4 :: x5 :: y :: r) 6 y := rfl
theorem st7 {x0 x1 x2 x3 x4 x5 x6 z y : Sl} {r : Env} {N : Env → Prop} (q : N (x0 :: x1 :: x2 :: x3 :: x4 :: x5 :: x6 :: y :: r)) : SETS (List.set (x0 :: x1 :: x2 :: x3 :: x4 :: x5 :: x6 :: z :: r) 7 y) N := q
theorem lk7 {x0 x1 x2 x3 x4 x5 x6 y : Sl} {r : Env} : LK (x0 :: x1 :: x2 :: x3 :: x4 :: x5 :: x6 :: y :: r) 7 y := rfl
theorem st8 {x0 x1 x2 x3 x4 x5 x6 x7 z y : Sl} {r : Env} {N : Env → Prop} (q : N (x0 :: x1 :: x2 :: x3 :: x4 :: x5 :: x6 :: x7 :: y :: r)) : SETS (List.set (x0 :: x1 :: x2 :: x3 :: x4 :: x5 :: x6 :: x7 :: z :: r) 8 y) N := q
theorem lk8 {x0 x1 x2 x3 x4 x5 x6 x7 y : Sl} {r : Env} : LK (x0 :: x1 :: x2 :: x3 :: x4 :: x5 :: x6 :: x7 :: y :: r) 8 y := rfl
theorem st9 {x0 x1 x2 x3 x4 x5 x6 x7 x8 z y : Sl} {r : Env} {N : Env → Prop} (q : N (x0 :: x1 :: x2 :: x3 :: x4 :: x5 :: x6 :: x7 :: x8 :: y :: r)) : SETS (List.set (x0 :: x1 :: x2 :: x3 :: x4 :: x5 :: x6 :: x7 :: x8 :: z :: r) 9 y) N := q
theorem lk9 {x0 x1 x2 x3 x4 x5 x6 x7 x8 y : Sl} {r : Env} : LK (x0 :: x1 :: x2 :: x3 :: x4 :: x5 :: x6 :: x7 :: x8 :: y :: r) 9 y := rfl
theorem st10 {x0 x1 x2 x3 x4 x5 x6 x7 x8 x9 z y : Sl} {r : Env} {N : Env → Prop} (q : N (x0 :: x1 :: x2 :: x3 :: x4 :: x5 :: x6 :: x7 :: x8 :: x9 :: y :: r)) : SETS (List.set (x0 :: x1 :: x2 :: x3 :: x4 :: x5 :: x6 :: x7 :: x8 :: x9 :: z :: r) 10 y) N := q
theorem lk10 {x0 x1 x2 x3 x4 x5 x6 x7 x8 x9 y : Sl} {r : Env} : LK (x0 :: x1 :: x2 :: x3 :: x4 :: x5 :: x6 :: x7 :: x8 :: x9 :: y :: r) 10 y := rfl
theorem st11 {x0 x1 x2 x3 x4 x5 x6 x7 x8 x9 x10 z y : Sl} {r : Env} {N : Env → Prop} (q : N (x0 :: x1 :: x2 :: x3 :: x4 :: x5 :: x6 :: x7 :: x8 :: x9 :: x10 :: y :: r)) : SETS (List.set (x0 :: x1 :: x2 :: x3 :: x4 :: x5 :: x6 :: x7 :: x8 :: x9 :: x10 :: z :: r) 11 y) N := q
theorem lk11 {x0 x1 x2 x3 x4 x5 x6 x7 x8 x9 x10 y : Sl} {r : Env} : LK (x0 :: x1 :: x2 :: x3 :: x4 :: x5 :: x6 :: x7 :: x8 :: x9 :: x10 :: y :: r) 11 y := rfl
theorem st12 {x0 x1 x2 x3 x4 x5 x6 x7 x8 x9 x10 x11 z y : Sl} {r : Env} {N : Env → Prop} (q : N (x0 :: x1 :: x2 :: x3 :: x4 :: x5 :: x6 :: x7 :: x8 :: x9 :: x10 :: x11 :: y :: r)) : SETS (List.set (x0 :: x1 :: x2 :: x3 :: x4 :: x5 :: x6 :: x7 :: x8 :: x9 :: x10 :: x11 :: z :: r) 12 y) N := q
theorem lk12 {x0 x1 x2 x3 x4 x5 x6 x7 x8 x9 x10 x11 y : Sl} {r : Env} : LK (x0 :: x1 :: x2 :: x3 :: x4 :: x5 :: x6 :: x7 :: x8 :: x9 :: x10 :: x11 :: y :: r) 12 y := rfl
theorem st13 {x0 x1 x2 x3 x4 x5 x6 x7 x8 x9 x10 x11 x12 z y : Sl} {r : Env} {N : Env → Prop} (q : N (x0 :: x1 :: x2 :: x3 :: x4 :: x5 :: x6 :: x7 :: x8 :: x9 :: x10 :: x11 :: x12 :: y :: r)) : SETS (List.set (x0 :: x1 :: x2 :: x3 :: x4 :: x5 :: x6 :: x7 :: x8 :: x9 :: x10 :: x11 :: x12 :: z :: r) 13 y) N := q
theorem lk13 {x0 x1 x2 x3 x4 x5 x6 x7 x8 x9 x10 x11 x12 y : Sl} {r : Env} : LK (x0 :: x1 :: x2 :: x3 :: x4 :: x5 :: x6 :: x7 :: x8 :: x9 :: x10 :: x11 :: x12 :: y :: r) 13 y := rfl
theorem st14 {x0 x1 x2 x3 x4 x5 x6 x7 x8 x9 x10 x11 x12 x13 z y : Sl} {r : Env} {N : Env → Prop} (q : N (x0 :: x1 :: x2 :: x3 :: x4 :: x5 :: x6 :: x7 :: x8 :: x9 :: x10 :: x11 :: x12 :: x13 :: y :: r)) : SETS (List.set (x0 :: x1 :: x2 :: x3 :: x4 :: x5 :: x6 :: x7 :: x8 :: x9 :: x10 :: x11 :: x12 :: x13 :: z :: r) 14 y) N := q
theorem lk14 {x0 x1 x2 x3 x4 x5 x6 x7 x8 x9 x10 x11 x12 x13 y : Sl} {r : Env} : LK (x0 :: x1 :: x2 :: x3 :: x4 :: x5 :: x6 :: x7 :: x8 :: x9 :: x10 :: x11 :: x12 :: x13 :: y :: r) 14 y := rfl
theorem st15 {x0 x1 x2 x3 x4 x5 x6 x7 x8 x9 x10 x11 x12 x13 x14 z y : Sl} {r : Env} {N : Env → Prop} (q : N (x0 :: x1 :: x2 :: x3 :: x4 :: x5 :: x6 :: x7 :: x8 :: x9 :: x10 :: x11 :: x12 :: x13 :: x14 :: y :: r)) : SETS (List.set (x0 :: x1 :: x2 :: x3 :: x4 :: x5 :: x6 :: x7 :: x8 :: x9 :: x10 :: x11 :: x12 :: x13 :: x14 :: z :: r) 15 y) N := q
theorem lk15 {x0 x1 x2 x3 x4 x5 x6 x7 x8 x9 x10 x11 x12 x13 x14 y : Sl} {r : Env} : LK (x0 :: x1 :: x2 :: x3 :: x4 :: x5 :: x6 :: x7 :: x8 :: x9 :: x10 :: x11 :: x12 :: x13 :: x14 :: y :: r) 15 y := rfl
theorem st16 {x0 x1 x2 x3 x4 x5 x6 x7 x8 x9 x10 x11 x12 x13 x14 x15 z y : Sl} {r : Env} {N : Env → Prop} (q : N (x0 :: x1 :: x2 :: x3 :: x4 :: x5 :: x6 :: x7 :: x8 :: x9 :: x10 :: x11 :: x12 :: x13 :: x14 :: x15 :: y :: r)) : SETS (List.set (x0 :: x1 :: x2 :: x3 :: x4 :: x5 :: x6 :: x7 :: x8 :: x9 :: x10 :: x11 :: x12 :: x13 :: x14 :: x15 :: z :: r) 16 y) N := q
theorem lk16 {x0 x1 x2 x3 x4 x5 x6 x7 x8 x9 x10 x11 x12 x13 x14 x15 y : Sl} {r : Env} : LK (x0 :: x1 :: x2 :: x3 :: x4 :: x5 :: x6 :: x7 :: x8 :: x9 :: x10 :: x11 :: x12 :: x13 :: x14 :: x15 :: y :: r) 16 y := rfl
theorem st17 {x0 x1 x2 x3 x4 x5 x6 x7 x8 x9 x10 x11 x12 x13 x14 x15 x16 z y : Sl} {r : Env} {N : Env → Prop} (q : N (x0 :: x1 :: x2 :: x3 :: x4 :: x5 :: x6 :: x7 :: x8 :: x9 :: x10 :: x11 :: x12 :: x13 :: x14 :: x15 :: x16 :: y :: r)) : SETS (List.set (x0 :: x1 :: x2 :: x3 :: x4 :: x5 :: x6 :: x7 :: x8 :: x9 :: x10 :: x11 :: x12 :: x13 :: x14 :: x15 :: x16 :: z :: r) 17 y) N := q
theorem lk17 {x0 x1 x2 x3 x4 x5 x6 x7 x8 x9 x10 x11 x12 x13 x14 x15 x16 y : Sl} {r : Env} : LK (x0 :: x1 :: x2 :: x3 :: x4 :: x5 :: x6 :: x7 :: x8 :: x9 :: x10 :: x11 :: x12 :: x13 :: x14 :: x15 :: x16 :: y :: r) 17 y := rfl
theorem st18 {x0 x1 x2 x3 x4 x5 x6 x7 x8 x9 x10 x11 x12 x13 x14 x15 x16 x17 z y : Sl} {r : Env} {N : Env → Prop} (q : N (x0 :: x1 :: x2 :: x3 :: x4 :: x5 :: x6 :: x7 :: x8 :: x9 :: x10 :: x11 :: x12 :: x13 :: x14 :: x15 :: x16 :: x17 :: y :: r)) : SETS (List.set (x0 :: x1 :: x2 :: x3 :: x4 :: x5 :: x6 :: x7 :: x8 :: x9 :: x10 :: x11 :: x12 :: x13 :: x14 :: x15 :: x16 :: x17 :: z :: r) 18 y) N := q
theorem lk18 {x0 x1 x2 x3 x4 x5 x6 x7 x8 x9 x10 x11 x12 x13 x14 x15 x16 x17 y : Sl} {r : Env} : LK (x0 :: x1 :: x2 :: x3 :: x4 :: x5 :: x6 :: x7 :: x8 :: x9 :: x10 :: x11 :: x12 :: x13 :: x14 :: x15 :: x16 :: x17 :: y :: r) 18 y := rfl
theorem st19 {x0 x1 x2 x3 x4 x5 x6 x7 x8 x9 x10 x11 x12 x13 x14 x15 x16 x17 x18 z y : Sl} {r : Env} {N : Env → Prop} (q : N (x0 :: x1 :: x2 :: x3 :: x4 :: x5 :: x6 :: x7 :: x8 :: x9 :: x10 :: x11 :: x12 :: x13 :: x14 :: x15 :: x16 :: x17 :: x18 :: y :: r)) : SETS (List.set (x0 :: x1 :: x2 :: x3 :: x4 :: x5 :: x6 :: x7 :: x8 :: x9 :: x10 :: x11 :: x12 :: x13 :: x14 :: x15 :: x16 :: x17 :: x18 :: z :: r) 19 y) N := q
theorem lk19 {x0 x1 x2 x3 x4 x5 x6 x7 x8 x9 x10 x11 x12 x13 x14 x15 x16 x17 x18 y : Sl} {r : Env} : LK (x0 :: x1 :: x2 :: x3 :: x4 :: x5 :: x6 :: x7 :: x8 :: x9 :: x10 :: x11 :: x12 :: x13 :: x14 :: x15 :: x16 :: x17 :: x18 :: y :: r) 19 y := rfl
theorem st20 {x0 x1 x2 x3 x4 x5 x6 x7 x8 x9 x10 x11 x12 x13 x14 x15 x16 x17 x18 x19 z y : Sl} {r : Env} {N : Env → Prop} (q : N (x0 :: x1 :: x2 :: x3 :: x4 :: x5 :: x6 :: x7 :: x8 :: x9 :: x10 :: x11 :: x12 :: x13 :: x14 :: x15 :: x16 :: x17 :: x18 :: x19 :: y :: r)) : SETS (List.set (x0 :: x1 :: x2 :: x3 :: x4 :: x5 :: x6 :: x7 :: x8 :: x9 :: x10 :: x11 :: x12 :: x13 :: x14 :: x15 :: x16 :: x17 :: x18 :: x19 :: z :: r) 20 y) N := q
theorem lk20 {x0 x1 x2 x3 x4 x5 x6 x7 x8 x9 x10 x11 x12 x13 x14 x15 x16 x17 x18 x19 y : Sl} {r : Env} : LK (x0 :: x1 :: x2 :: x3 :: x4 :: x5 :: x6 :: x7 :: x8 :: x9 :: x10 :: x11 :: x12 :: x13 :: x14 :: x15 :: x16 :: x17 :: x18 :: x19 :: y :: r) 20 y := rfl
theorem st21 {x0 x1 x2 x3 x4 x5 x6 x7 x8 x9 x10 x11 x12 x13 x14 x15 x16 x17 x18 x19 x20 z y : Sl} {r : Env} {N : Env → Prop} (q : N (x0 :: x1 :: x2 :: x3 :: x4 :: x5 :: x6 :: x7 :: x8 :: x9 :: x10 :: x11 :: x12 :: x13 :: x14 :: x15 :: x16 :: x17 :: x18 :: x19 :: x20 :: y :: r)) : SETS (List.set (x0 :: x1 :: x2 :: x3 :: x4 :: x5 :: x6 :: x7 :: x8 :: x9 :: x10 :: x11 :: x12 :: x13 :: x14 :: x15 :: x16 :: x17 :: x18 :: x19 :: x20 :: z :: r) 21 y) N := q
theorem lk21 {x0 x1 x2 x3 x4 x5 x6 x7 x8 x9 x10 x11 x12 x13 x14 x15 x16 x17 x18 x19 x20 y : Sl} {r : Env} : LK (x0 :: x1 :: x2 :: x3 :: x4 :: x5 :: x6 :: x7 :: x8 :: x9 :: x10 :: x11 :: x12 :: x13 :: x14 :: x15 :: x16 :: x17 :: x18 :: x19 :: x20 :: y :: r) 21 y := rfl
theorem st22 {x0 x1 x2 x3 x4 x5 x6 x7 x8 x9 x10 x11 x12 x13 x14 x15 x16 x17 x18 x19 x20 x21 z y : Sl} {r : Env} {N : Env → Prop} (q : N (x0 :: x1 :: x2 :: x3 :: x4 :: x5 :: x6 :: x7 :: x8 :: x9 :: x10 :: x11 :: x12 :: x13 :: x14 :: x15 :: x16 :: x17 :: x18 :: x19 :: x20 :: x21 :: y :: r)) : SETS (List.set (x0 :: x1 :: x2 :: x3 :: x4 :: x5 :: x6 :: x7 :: x8 :: x9 :: x10 :: x11 :: x12 :: x13 :: x14 :: x15 :: x16 :: x17 :: x18 :: x19 :: x20 :: x21 :: z :: r) 22 y) N := q
theorem lk22 {x0 x1 x2 x3 x4 x5 x6 x7 x8 x9 x10 x11 x12 x13 x14 x15 x16 x17 x18 x19 x20 x21 y : Sl} {r : Env} : LK (x0 :: x1 :: x2 :: x3 :: x4 :: x5 :: x6 :: x7 :: x8 :: x9 :: x10 :: x11 :: x12 :: x13 :: x14 :: x15 :: x16 :: x17 :: x18 :: x19 :: x20 :: x21 :: y :: r) 22 y := rfl
theorem st23 {x0 x1 x2 x3 x4 x5 x6 x7 x8 x9 x10 x11 x12 x13 x14 x15 x16 x17 x18 x19 x20 x21 x22 z y : Sl} {r : Env} {N : Env → Prop} (q : N (x0 :: x1 :: x2 :: x3 :: x4 :: x5 :: x6 :: x7 :: x8 :: x9 :: x10 :: x11 :: x12 :: x13 :: x14 :: x15 :: x16 :: x17 :: x18 :: x19 :: x20 :: x21 :: x22 :: y :: r)) : SETS (List.set (x0 :: x1 :: x2 :: x3 :: x4 :: x5 :: x6 :: x7 :: x8 :: x9 :: x10 :: x11 :: x12 :: x13 :: x14 :: x15 :: x16 :: x17 :: x18 :: x19 :: x20 :: x21 :: x22 :: z :: r) 23 y) N := q
theorem lk23 {x0 x1 x2 x3 x4 x5 x6 x7 x8 x9 x10 x11 x12 x13 x14 x15 x16 x17 x18 x19 x20 x21 x22 y : Sl} {r : Env} : LK (x0 :: x1 :: x2 :: x3 :: x4 :: x5 :: x6 :: x7 :: x8 :: x9 :: x10 :: x11 :: x12 :: x13 :: x14 :: x15 :: x16 :: x17 :: x18 :: x19 :: x20 :: x21 :: x22 :: y :: r) 23 y := rfl
theorem st24 {x0 x1 x2 x3 x4 x5 x6 x7 x8 x9 x10 x11 x12 x13 x14 x15 x16 x17 x18 x19 x20 x21 x22 x23 z y : Sl} {r : Env} {N : Env → Prop} (q : N (x0 :: x1 :: x2 :: x3 :: x4 :: x5 :: x6 :: x7 :: x8 :: x9 :: x10 :: x11 :: x12 :: x13 :: x14 :: x15 :: x16 :: x17 :: x18 :: x19 :: x20 :: x21 :: x22 :: x23 :: y :: r)) : SETS (List.set (x0 :: x1 :: x2 :: x3 :: x4 :: x5 :: x6 :: x7 :: x8 :: x9 :: x10 :: x11 :: x12 :: x13 :: x14 :: x15 :: x16 :: x17 :: x18 :: x19 :: x20 :: x21 :: x22 :: x23 :: z :: r) 24 y) N := q
theorem lk24 {x0 x1 x2 x3 x4 x5 x6 x7 x8 x9 x10 x11 x12 x13 x14 x15 x16 x17 x18 x19 x20 x21 x22 x23 y : Sl} {r : Env} : LK (x0 :: x1 :: x2 :: x3 :: x4 :: x5 :: x6 :: x7 :: x8 :: x9 :: x10 :: x11 :: x12 :: x13 :: x14 :: x15 :: x16 :: x17 :: x18 :: x19 :: x20 :: x21 :: x22 :: x23 :: y :: r) 24 y := rfl
theorem st25 {x0 x1 x2 x3 x4 x5 x6 x7 x8 x9 x10 x11 x12 x13 x14 x15 x16 x17 x18 x19 x20 x21 x22 x23 x24 z y : Sl} {r : Env} {N : Env → Prop} (q : N (x0 :: x1 :: x2 :: x3 :: x4 :: x5 :: x6 :: x7 :: x8 :: x9 :: x10 :: x11 :: x12 :: x13 :: x14 :: x15 :: x16 :: x17 :: x18 :: x19 :: x20 :: x21 :: x22 :: x23 :: x24 :: y :: r)) : SETS (List.set (x0 :: x1 :: x2 :: x3 :: x4 :: x5 :: x6 :: x7 :: x8 :: x9 :: x10 :: x11 :: x12 :: x13 :: x14 :: x15 :: x16 :: x17 :: x18 :: x19 :: x20 :: x21 :: x22 :: x23 :: x24 :: z :: r) 25 y) N := q
theorem lk25 {x0 x1 x2 x3 x4 x5 x6 x7 x8 x9 x10 x11 x12 x13 x14 x15 x16 x17 x18 x19 x20 x21 x22 x23 x24 y : Sl} {r : Env} : LK (x0 :: x1 :: x2 :: x3 :: x4 :: x5 :: x6 :: x7 :: x8 :: x9 :: x10 :: x11 :: x12 :: x13 :: x14 :: x15 :: x16 :: x17 :: x18 :: x19 :: x20 :: x21 :: x22 :: x23 :: x24 :: y :: r) 25 y := rfl
theorem st26 {x0 x1 x2 x3 x4 x5 x6 x7 x8 x9 x10 x11 x12 x13 x14 x15 x16 x17 x18 x19 x20 x21 x22 x23 x24 x25 z y : Sl} {r : Env} {N : Env → Prop} (q : N (x0 :: x1 :: x2 :: x3 :: x4 :: x5 :: x6 :: x7 :: x8 :: x9 :: x10 :: x11 :: x12 :: x13 :: x14 :: x15 :: x16 :: x17 :: x18 :: x19 :: x20 :: x21 :: x22 :: x23 :: x24 :: x25 :: y :: r)) : SETS (List.set (x0 :: x1 :: x2 :: x3 :: x4 :: x5 :: x6 :: x7 :: x8 :: x9 :: x10 :: x11 :: x12 :: x13 :: x14 :: x15 :: x16 :: x17 :: x18 :: x19 :: x20 :: x21 :: x22 :: x23 :: x24 :: x25 :: z :: r) 26 y) N := q
theorem lk26 {x0 x1 x2 x3 x4 x5 x6 x7 x8 x9 x10 x11 x12 x13 x14 x15 x16 x17 x18 x19 x20 x21 x22 x23 x24 x25 y : Sl} {r : Env} : LK (x0 :: x1 :: x2 :: x3 :: x4 :: x5 :: x6 :: x7 :: x8 :: x9 :: x10 :: x11 :: x12 :: x13 :: x14 :: x15 :: x16 :: x17 :: x18 :: x19 :: x20 :: x21 :: x22 :: x23 :: x24 :: x25 :: y :: r) 26 y := rfl
theorem st27 {x0 x1 x2 x3 x4 x5 x6 x7 x8 x9 x10 x11 x12 x13 x14 x15 x16 x17 x18 x19 x20 x21 x22 x23 x24 x25 x26 z y : Sl} {r : Env} {N : Env → Prop} (q : N (x0 :: x1 :: x2 :: x3 :: x4 :: x5 :: x6 :: x7 :: x8 :: x9 :: x10 :: x11 :: x12 :: x13 :: x14 :: x15 :: x16 :: x17 :: x18 :: x19 :: x20 :: x21 :: x22 :: x23 :: x24 :: x25 :: x26 :: y :: r)) : SETS (List.set (x0 :: x1 :: x2 :: x3 :: x4 :: x5 :: x6 :: x7 :: x8 :: x9 :: x10 :: x11 :: x12 :: x13 :: x14 :: x15 :: x16 :: x17 :: x18 :: x19 :: x20 :: x21 :: x22 :: x23 :: x24 :: x25 :: x26 :: z :: r) 27 y) N := q
theorem lk27 {x0 x1 x2 x3 x4 x5 x6 x7 x8 x9 x10 x11 x12 x13 x14 x15 x16 x17 x18 x19 x20 x21 x22 x23 x24 x25 x26 y : Sl} {r : Env} : LK (x0 :: x1 :: x2 :: x3 :: x4 :: x5 :: x6 :: x7 :: x8 :: x9 :: x10 :: x11 :: x12 :: x13 :: x14 :: x15 :: x16 :: x17 :: x18 :: x19 :: x20 :: x21 :: x22 :: x23 :: x24 :: x25 :: x26 :: y :: r) 27 y := rfl
theorem st28 {x0 x1 x2 x3 x4 x5 x6 x7 x8 x9 x10 x11 x12 x13 x14 x15 x16 x17 x18 x19 x20 x21 x22 x23 x24 x25 x26 x27 z y : Sl} {r : Env} {N : Env → Prop} (q : N (x0 :: x1 :: x2 :: x3 :: x4 :: x5 :: x6 :: x7 :: x8 :: x9 :: x10 :: x11 :: x12 :: x13 :: x14 :: x15 :: x16 :: x17 :: x18 :: x19 :: x20 :: x21 :: x22 :: x23 :: x24 :: x25 :: x26 :: x27 :: y :: r)) : SETS (List.set (x0 :: x1 :: x2 :: x3 :: x4 :: x5 :: x6 :: x7 :: x8 :: x9 :: x10 :: x11 :: x12 :: x13 :: x14 :: x15 :: x16 :: x17 :: x18 :: x19 :: x20 :: x21 :: x22 :: x23 :: x24 :: x25 :: x26 :: x27 :: z :: r) 28 y) N := q
theorem lk28 {x0 x1 x2 x3 x4 x5 x6 x7 x8 x9 x10 x11 x12 x13 x14 x15 x16 x17 x18 x19 x20 x21 x22 x23 x24 x25 x26 x27 y : Sl} {r : Env} : LK (x0 :: x1 :: x2 :: x3 :: x4 :: x5 :: x6 :: x7 :: x8 :: x9 :: x10 :: x11 :: x12 :: x13 :: x14 :: x15 :: x16 :: x17 :: x18 :: x19 :: x20 :: x21 :: x22 :: x23 :: x24 :: x25 :: x26 :: x27 :: y :: r) 28 y := rfl
theorem st29 {x0 x1 x2 x3 x4 x5 x6 x7 x8 x9 x10 x11 x12 x13 x14 x15 x16 x17 x18 x19 x20 x21 x22 x23 x24 x25 x26 x27 x28 z y : Sl} {r : Env} {N : Env → Prop} (q : N (x0 :: x1 :: x2 :: x3 :: x4 :: x5 :: x6 :: x7 :: x8 :: x9 :: x10 :: x11 :: x12 :: x13 :: x14 :: x15 :: x16 :: x17 :: x18 :: x19 :: x20 :: x21 :: x22 :: x23 :: x24 :: x25 :: x26 :: x27 :: x28 :: y :: r)) : SETS (List.set (x0 :: x1 :: x2 :: x3 :: x4 :: x5 :: x6 :: x7 :: x8 :: x9 :: x10 :: x11 :: x12 :: x13 :: x14 :: x15 :: x16 :: x17 :: x18 :: x19 :: x20 :: x21 :: x22 :: x23 :: x24 :: x25 :: x26 :: x27 :: x28 :: z :: r) 29 y) N := q
theorem lk29 {x0 x1 x2 x3 x4 x5 x6 x7 x8 x9 x10 x11 x12 x13 x14 x15 x16 x17 x18 x19 x20 x21 x22 x23 x24 x25 x26 x27 x28 y : Sl} {r : Env} : LK (x0 :: x1 :: x2 :: x3 :: x4 :: x5 :: x6 :: x7 :: x8 :: x9 :: x10 :: x11 :: x12 :: x13 :: x14 :: x15 :: x16 :: x17 :: x18 :: x19 :: x20 :: x21 :: x22 :: x23 :: x24 :: x25 :: x26 :: x27 :: x28 :: y :: r) 29 y := rfl
theorem st30 {x0 x1 x2 x3 x4 x5 x6 x7 x8 x9 x10 x11 x12 x13 x14 x15 x16 x17 x18 x19 x20 x21 x22 x23 x24 x25 x26 x27 x28 x29 z y : Sl} {r : Env} {N : Env → Prop} (q : N (x0 :: x1 :: x2 :: x3 :: x4 :: x5 :: x6 :: x7 :: x8 :: x9 :: x10 :: x11 :: x12 :: x13 :: x14 :: x15 :: x16 :: x17 :: x18 :: x19 :: x20 :: x21 :: x22 :: x23 :: x24 :: x25 :: x26 :: x27 :: x28 :: x29 :: y :: r)) : SETS (List.set (x0 :: x1 :: x2 :: x3 :: x4 :: x5 :: x6 :: x7 :: x8 :: x9 :: x10 :: x11 :: x12 :: x13 :: x14 :: x15 :: x16 :: x17 :: x18 :: x19 :: x20 :: x21 :: x22 :: x23 :: x24 :: x25 :: x26 :: x27 :: x28 :: x29 :: z :: r) 30 y) N := q
theorem lk30 {x0 x1 x2 x3 x4 x5 x6 x7 x8 x9 x10 x11 x12 x13 x14 x15 x16 x17 x18 x19 x20 x21 x22 x23 x24 x25 x26 x27 x28 x29 y : Sl} {r : Env} : LK (x0 :: x1 :: x2 :: x3 :: x4 :: x5 :: x6 :: x7 :: x8 :: x9 :: x10 :: x11 :: x12 :: x13 :: x14 :: x15 :: x16 :: x17 :: x18 :: x19 :: x20 :: x21 :: x22 :: x23 :: x24 :: x25 :: x26 :: x27 :: x28 :: x29 :: y :: r) 30 y := rfl
theorem st31 {x0 x1 x2 x3 x4 x5 x6 x7 x8 x9 x10 x11 x12 x13 x14 x15 x16 x17 x18 x19 x20 x21 x22 x23 x24 x25 x26 x27 x28 x29 x30 z y : Sl} {r : Env} {N : Env → Prop} (q : N (x0 :: x1 :: x2 :: x3 :: x4 :: x5 :: x6 :: x7 :: x8 :: x9 :: x10 :: x11 :: x12 :: x13 :: x14 :: x15 :: x16 :: x17 :: x18 :: x19 :: x20 :: x21 :: x22 :: x23 :: x24 :: x25 :: x26 :: x27 :: x28 :: x29 :: x30 :: y :: r)) : SETS (List.set (x0 :: x1 :: x2 :: x3 :: x4 :: x5 :: x6 :: x7 :: x8 :: x9 :: x10 :: x11 :: x12 :: x13 :: x14 :: x15 :: x16 :: x17 :: x18 :: x19 :: x20 :: x21 :: x22 :: x23 :: x24 :: x25 :: x26 :: x27 :: x28 :: x29 :: x30 :: z :: r) 31 y) N := q
theorem lk31 {x0 x1 x2 x3 x4 x5 x6 x7 x8 x9 x10 x11 x12 x13 x14 x15 x16 x17 x18 x19 x20 x21 x22 x23 x24 x25 x26 x27 x28 x29 x30 y : Sl} {r : Env} : LK (x0 :: x1 :: x2 :: x3 :: x4 :: x5 :: x6 :: x7 :: x8 :: x9 :: x10 :: x11 :: x12 :: x13 :: x14 :: x15 :: x16 :: x17 :: x18 :: x19 :: x20 :: x21 :: x22 :: x23 :: x24 :: x25 :: x26 :: x27 :: x28 :: x29 :: x30 :: y :: r) 31 y := rfl
theorem st32 {x0 x1 x2 x3 x4 x5 x6 x7 x8 x9 x10 x11 x12 x13 x14 x15 x16 x17 x18 x19 x20 x21 x22 x23 x24 x25 x26 x27 x28 x29 x30 x31 z y : Sl} {r : Env} {N : Env → Prop} (q : N (x0 :: x1 :: x2 :: x3 :: x4 :: x5 :: x6 :: x7 :: x8 :: x9 :: x10 :: x11 :: x12 :: x13 :: x14 :: x15 :: x16 :: x17 :: x18 :: x19 :: x20 :: x21 :: x22 :: x23 :: x24 :: x25 :: x26 :: x27 :: x28 :: x29 :: x30 :: x31 :: y :: r)) : SETS (List.set (x0 :: x1 :: x2 :: x3 :: x4 :: x5 :: x6 :: x7 :: x8 :: x9 :: x10 :: x11 :: x12 :: x13 :: x14 :: x15 :: x16 :: x17 :: x18 :: x19 :: x20 :: x21 :: x22 :: x23 :: x24 :: x25 :: x26 :: x27 :: x28 :: x29 :: x30 :: x31 :: z :: r) 32 y) N := q
theorem lk32 {x0 x1 x2 x3 x4 x5 x6 x7 x8 x9 x10 x11 x12 x13 x14 x15 x16 x17 x18 x19 x20 x21 x22 x23 x24 x25 x26 x27 x28 x29 x30 x31 y : Sl} {r : Env} : LK (x0 :: x1 :: x2 :: x3 :: x4 :: x5 :: x6 :: x7 :: x8 :: x9 :: x10 :: x11 :: x12 :: x13 :: x14 :: x15 :: x16 :: x17 :: x18 :: x19 :: x20 :: x21 :: x22 :: x23 :: x24 :: x25 :: x26 :: x27 :: x28 :: x29 :: x30 :: x31 :: y :: r) 32 y := rfl
theorem st33 {x0 x1 x2 x3 x4 x5 x6 x7 x8 x9 x10 x11 x12 x13 x14 x15 x16 x17 x18 x19 x20 x21 x22 x23 x24 x25 x26 x27 x28 x29 x30 x31 x32 z y : Sl} {r : Env} {N : Env → Prop} (q : N (x0 :: x1 :: x2 :: x3 :: x4 :: x5 :: x6 :: x7 :: x8 :: x9 :: x10 :: x11 :: x12 :: x13 :: x14 :: x15 :: x16 :: x17 :: x18 :: x19 :: x20 :: x21 :: x22 :: x23 :: x24 :: x25 :: x26 :: x27 :: x28 :: x29 :: x30 :: x31 :: x32 :: y :: r)) : SETS (List.set (x0 :: x1 :: x2 :: x3 :: x4 :: x5 :: x6 :: x7 :: x8 :: x9 :: x10 :: x11 :: x12 :: x13 :: x14 :: x15 :: x16 :: x17 :: x18 :: x19 :: x20 :: x21 :: x22 :: x23 :: x24 :: x25 :: x26 :: x27 :: x28 :: x29 :: x30 :: x31 :: x32 :: z :: r) 33 y) N := q
theorem lk33 {x0 x1 x2 x3 x4 x5 x6 x7 x8 x9 x10 x11 x12 x13 x14 x15 x16 x17 x18 x19 x20 x21 x22 x23 x24 x25 x26 x27 x28 x29 x30 x31 x32 y : Sl} {r : Env} : LK (x0 :: x1 :: x2 :: x3 :: x4 :: x5 :: x6 :: x7 :: x8 :: x9 :: x10 :: x11 :: x12 :: x13 :: x14 :: x15 :: x16 :: x17 :: x18 :: x19 :: x20 :: x21 :: x22 :: x23 :: x24 :: x25 :: x26 :: x27 :: x28 :: x29 :: x30 :: x31 :: x32 :: y :: r) 33 y := rfl
theorem st34 {x0 x1 x2 x3 x4 x5 x6 x7 x8 x9 x10 x11 x12 x13 x14 x15 x16 x17 x18 x19 x20 x21 x22 x23 x24 x25 x26 x27 x28 x29 x30 x31 x32 x33 z y : Sl} {r : Env} {N : Env → Prop} (q : N (x0 :: x1 :: x2 :: x3 :: x4 :: x5 :: x6 :: x7 :: x8 :: x9 :: x10 :: x11 :: x12 :: x13 :: x14 :: x15 :: x16 :: x17 :: x18 :: x19 :: x20 :: x21 :: x22 :: x23 :: x24 :: x25 :: x26 :: x27 :: x28 :: x29 :: x30 :: x31 :: x32 :: x33 :: y :: r)) : SETS (List.set (x0 :: x1 :: x2 :: x3 :: x4 :: x5 :: x6 :: x7 :: x8 :: x9 :: x10 :: x11 :: x12 :: x13 :: x14 :: x15 :: x16 :: x17 :: x18 :: x19 :: x20 :: x21 :: x22 :: x23 :: x24 :: x25 :: x26 :: x27 :: x28 :: x29 :: x30 :: x31 :: x32 :: x33 :: z :: r) 34 y) N := q
theorem lk34 {x0 x1 x2 x3 x4 x5 x6 x7 x8 x9 x10 x11 x12 x13 x14 x15 x16 x17 x18 x19 x20 x21 x22 x23 x24 x25 x26 x27 x28 x29 x30 x31 x32 x33 y : Sl} {r : Env} : LK (x0 :: x1 :: x2 :: x3 :: x4 :: x5 :: x6 :: x7 :: x8 :: x9 :: x10 :: x11 :: x12 :: x13 :: x14 :: x15 :: x16 :: x17 :: x18 :: x19 :: x20 :: x21 :: x22 :: x23 :: x24 :: x25 :: x26 :: x27 :: x28 :: x29 :: x30 :: x31 :: x32 :: x33 :: y :: r) 34 y := rfl
theorem st35 {x0 x1 x2 x3 x4 x5 x6 x7 x8 x9 x10 x11 x12 x13 x14 x15 x16 x17 x18 x19 x20 x21 x22 x23 x24 x25 x26 x27 x28 x29 x30 x31 x32 x33 x34 z y : Sl} {r : Env} {N : Env → Prop} (q : N (x0 :: x1 :: x2 :: x3 :: x4 :: x5 :: x6 :: x7 :: x8 :: x9 :: x10 :: x11 :: x12 :: x13 :: x14 :: x15 :: x16 :: x17 :: x18 :: x19 :: x20 :: x21 :: x22 :: x23 :: x24 :: x25 :: x26 :: x27 :: x28 :: x29 :: x30 :: x31 :: x32 :: x33 :: x34 :: y :: r)) : SETS (List.set (x0 :: x1 :: x2 :: x3 :: x4 :: x5 :: x6 :: x7 :: x8 :: x9 :: x10 :: x11 :: x12 :: x13 :: x14 :: x15 :: x16 :: x17 :: x18 :: x19 :: x20 :: x21 :: x22 :: x23 :: x24 :: x25 :: x26 :: x27 :: x28 :: x29 :: x30 :: x31 :: x32 :: x33 :: x34 :: z :: r) 35 y) N := q
theorem lk35 {x0 x1 x2 x3 x4 x5 x6 x7 x8 x9 x10 x11 x12 x13 x14 x15 x16 x17 x18 x19 x20 x21 x22 x23 x24 x25 x26 x27 x28 x29 x30 x31 x32 x33 x34 y : Sl} {r : Env} : LK (x0 :: x1 :: x2 :: x3 :: x4 :: x5 :: x6 :: x7 :: x8 :: x9 :: x10 :: x11 :: x12 :: x13 :: x14 :: x15 :: x16 :: x17 :: x18 :: x19 :: x20 :: x21 :: x22 :: x23 :: x24 :: x25 :: x26 :: x27 :: x28 :: x29 :: x30 :: x31 :: x32 :: x33 :: x34 :: y :: r) 35 y := rfl
theorem st36 {x0 x1 x2 x3 x4 x5 x6 x7 x8 x9 x10 x11 x12 x13 x14 x15 x16 x17 x18 x19 x20 x21 x22 x23 x24 x25 x26 x27 x28 x29 x30 x31 x32 x33 x34 x35 z y : Sl} {r : Env} {N : Env → Prop} (q : N (x0 :: x1 :: x2 :: x3 :: x4 :: x5 :: x6 :: x7 :: x8 :: x9 :: x10 :: x11 :: x12 :: x13 :: x14 :: x15 :: x16 :: x17 :: x18 :: x19 :: x20 :: x21 :: x22 :: x23 :: x24 :: x25 :: x26 :: x27 :: x28 :: x29 :: x30 :: x31 :: x32 :: x33 :: x34 :: x35 :: y :: r)) : SETS (List.set (x0 :: x1 :: x2 :: x3 :: x4 :: x5 :: x6 :: x7 :: x8 :: x9 :: x10 :: x11 :: x12 :: x13 :: x14 :: x15 :: x16 :: x17 :: x18 :: x19 :: x20 :: x21 :: x22 :: x23 :: x24 :: x25 :: x26 :: x27 :: x28 :: x29 :: x30 :: x31 :: x32 :: x33 :: x34 :: x35 :: z :: r) 36 y) N := q
theorem lk36 {x0 x1 x2 x3 x4 x5 x6 x7 x8 x9 x10 x11 x12 x13 x14 x15 x16 x17 x18 x19 x20 x21 x22 x23 x24 x25 x26 x27 x28 x29 x30 x31 x32 x33 x34 x35 y : Sl} {r : Env} : LK (x0 :: x1 :: x2 :: x3 :: x4 :: x5 :: x6 :: x7 :: x8 :: x9 :: x10 :: x11 :: x12 :: x13 :: x14 :: x15 :: x16 :: x17 :: x18 :: x19 :: x20 :: x21 :: x22 :: x23 :: x24 :: x25 :: x26 :: x27 :: x28 :: x29 :: x30 :: x31 :: x32 :: x33 :: x34 :: x35 :: y :: r) 36 y := rfl
theorem st37 {x0 x1 x2 x3 x4 x5 x6 x7 x8 x9 x10 x11 x12 x13 x14 x15 x16 x17 x18 x19 x20 x21 x22 x23 x24 x25 x26 x27 x28 x29 x30 x31 x32 x33 x34 x35 x36 z y : Sl} {r : Env} {N : Env → Prop} (q : N (x0 :: x1 :: x2 :: x3 :: x4 :: x5 :: x6 :: x7 :: x8 :: x9 :: x10 :: x11 :: x12 :: x13 :: x14 :: x15 :: x16 :: x17 :: x18 :: x19 :: x20 :: x21 :: x22 :: x23 :: x24 :: x25 :: x26 :: x27 :: x28 :: x29 :: x30 :: x31 :: x32 :: x33 :: x34 :: x35 :: x36 :: y :: r)) : SETS (List.set (x0 :: x1 :: x2 :: x3 :: x4 :: x5 :: x6 :: x7 :: x8 :: x9 :: x10 :: x11 :: x12 :: x13 :: x14 :: x15 :: x16 :: x17 :: x18 :: x19 :: x20 :: x21 :: x22 :: x23 :: x24 :: x25 :: x26 :: x27 :: x28 :: x29 :: x30 :: x31 :: x32 :: x33 :: x34 :: x35 :: x36 :: z :: r) 37 y) N := q
theorem lk37 {x0 x1 x2 x3 x4 x5 x6 x7 x8 x9 x10 x11 x12 x13 x14 x15 x16 x17 x18 x19 x20 x21 x22 x23 x24 x25 x26 x27 x28 x29 x30 x31 x32 x33 x34 x35 x36 y : Sl} {r : Env} : LK (x0 :: x1 :: x2 :: x3 :: x4 :: x5 :: x6 :: x7 :: x8 :: x9 :: x10 :: x11 :: x12 :: x13 :: x14 :: x15 :: x16 :: x17 :: x18 :: x19 :: x20 :: x21 :: x22 :: x23 :: x24 :: x25 :: x26 :: x27 :: x28 :: x29 :: x30 :: x31 :: x32 :: x33 :: x34 :: x35 :: x36 :: y :: r) 37 y := rfl
theorem st38 {x0 x1 x2 x3 x4 x5 x6 x7 x8 x9 x10 x11 x12 x13 x14 x15 x16 x17 x18 x19 x20 x21 x22 x23 x24 x25 x26 x27 x28 x29 x30 x31 x32 x33 x34 x35 x36 x37 z y : Sl} {r : Env} {N : Env → Prop} (q : N (x0 :: x1 :: x2 :: x3 :: x4 :: x5 :: x6 :: x7 :: x8 :: x9 :: x10 :: x11 :: x12 :: x13 :: x14 :: x15 :: x16 :: x17 :: x18 :: x19 :: x20 :: x21 :: x22 :: x23 :: x24 :: x25 :: x26 :: x27 :: x28 :: x29 :: x30 :: x31 :: x32 :: x33 :: x34 :: x35 :: x36 :: x37 :: y :: r)) : SETS (List.set (x0 :: x1 :: x2 :: x3 :: x4 :: x5 :: x6 :: x7 :: x8 :: x9 :: x10 :: x11 :: x12 :: x13 :: x14 :: x15 :: x16 :: x17 :: x18 :: x19 :: x20 :: x21 :: x22 :: x23 :: x24 :: x25 :: x26 :: x27 :: x28 :: x29 :: x30 :: x31 :: x32 :: x33 :: x34 :: x35 :: x36 :: x37 :: z :: r) 38 y) N := q
theorem lk38 {x0 x1 x2 x3 x4 x5 x6 x7 x8 x9 x10 x11 x12 x13 x14 x15 x16 x17 x18 x19 x20 x21 x22 x23 x24 x25 x26 x27 x28 x29 x30 x31 x32 x33 x34 x35 x36 x37 y : Sl} {r : Env} : LK (x0 :: x1 :: x2 :: x3 :: x4 :: x5 :: x6 :: x7 :: x8 :: x9 :: x10 :: x11 :: x12 :: x13 :: x14 :: x15 :: x16 :: x17 :: x18 :: x19 :: x20 :: x21 :: x22 :: x23 :: x24 :: x25 :: x26 :: x27 :: x28 :: x29 :: x30 :: x31 :: x32 :: x33 :: x34 :: x35 :: x36 :: x37 :: y :: r) 38 y := rfl
theorem st39 {x0 x1 x2 x3 x4 x5 x6 x7 x8 x9 x10 x11 x12 x13 x14 x15 x16 x17 x18 x19 x20 x21 x22 x23 x24 x25 x26 x27 x28 x29 x30 x31 x32 x33 x34 x35 x36 x37 x38 z y : Sl} {r : Env} {N : Env → Prop} (q : N (x0 :: x1 :: x2 :: x3 :: x4 :: x5 :: x6 :: x7 :: x8 :: x9 :: x10 :: x11 :: x12 :: x13 :: x14 :: x15 :: x16 :: x17 :: x18 :: x19 :: x20 :: x21 :: x22 :: x23 :: x24 :: x25 :: x26 :: x27 :: x28 :: x29 :: x30 :: x31 :: x32 :: x33 :: x34 :: x35 :: x36 :: x37 :: x38 :: y :: r)) : SETS (List.set (x0 :: x1 :: x2 :: x3 :: x4 :: x5 :: x6 :: x7 :: x8 :: x9 :: x10 :: x11 :: x12 :: x13 :: x14 :: x15 :: x16 :: x17 :: x18 :: x19 :: x20 :: x21 :: x22 :: x23 :: x24 :: x25 :: x26 :: x27 :: x28 :: x29 :: x30 :: x31 :: x32 :: x33 :: x34 :: x35 :: x36 :: x37 :: x38 :: z :: r) 39 y) N := q
theorem lk39 {x0 x1 x2 x3 x4 x5 x6 x7 x8 x9 x10 x11 x12 x13 x14 x15 x16 x17 x18 x19 x20 x21 x22 x23 x24 x25 x26 x27 x28 x29 x30 x31 x32 x33 x34 x35 x36 x37 x38 y : Sl} {r : Env} : LK (x0 :: x1 :: x2 :: x3 :: x4 :: x5 :: x6 :: x7 :: x8 :: x9 :: x10 :: x11 :: x12 :: x13 :: x14 :: x15 :: x16 :: x17 :: x18 :: x19 :: x20 :: x21 :: x22 :: x23 :: x24 :: x25 :: x26 :: x27 :: x28 :: x29 :: x30 :: x31 :: x32 :: x33 :: x34 :: x35 :: x36 :: x37 :: x38 :: y :: r) 39 y := rfl
section
variable {ρ : Env} {Q : D → Env → Prop} {QB : Bool → Env → Prop} {QA : List D → Env → Prop} {N : Env → Prop} {Rt : D → Env → Prop} {B C : Env → Prop} {Xp : Str → D → Env → Prop} {ma mb mc m mi mv mk : ME} {mt mu' : MT} {ms : List ME} {m1 m2 : MS} {d e : D} {i j : Nat} {f g : D → D → Option D}
theorem w_val (l : LK ρ i (.val d)) (q : Q d ρ) : Sat (mVar i ρ) Q := ⟨d, ρ, by unfold mVar; rw [show ρ[i]? = some (.val d) from l], q⟩
theorem w_own (l : LK ρ i (.own d)) (q : SETS (ρ.set i (.val d)) (Q d)) (hf : frz d = true := by rfl) : Sat (mVar i ρ) Q := ⟨d, _, by unfold mVar; rw [show ρ[i]? = some (.own d) from l]; dsimp only; rw [hf], q⟩
theorem w_ownA (l : LK ρ i (.own d)) (hf : frz d = true) (q : SETS (ρ.set i (.val d)) (Q d)) : Sat (mVar i ρ) Q := w_own l q hf
theorem w_c (q : Q d ρ) : Sat (mC d ρ) Q := ⟨d, ρ, rfl, q⟩
theorem w_op (q : Sat (ma ρ) fun a ρ1 => Sat (mb ρ1) fun b ρ2 => VAL (f a b) fun d => Q d ρ2) : Sat (mOp f ma mb ρ) Q := by
  obtain ⟨a, ρ1, e1, b, ρ2, e2, d, e3, q⟩ := q
  exact ⟨d, ρ2, by unfold mOp; rw [e1]; show (mb ρ1).bind _ = _; rw [e2]; show ret _ _ = _; rw [e3]; rfl, q⟩
theorem w_un {f : D → Option D} (q : Sat (ma ρ) fun a ρ1 => VAL (f a) fun d => Q d ρ1) : Sat (mUn f ma ρ) Q := by
  obtain ⟨a, ρ1, e1, d, e3, q⟩ := q
  exact ⟨d, ρ1, by unfold mUn; rw [e1]; show ret _ _ = _; rw [e3]; rfl, q⟩
theorem w_nil (q : QA [] ρ) : SatA (mA [] ρ) QA := ⟨[], ρ, rfl, q⟩
theorem w_cons (q : Sat (m ρ) fun a ρ1 => SatA (mA ms ρ1) fun as ρ2 => QA (a :: as) ρ2) : SatA (mA (m :: ms) ρ) QA := by
  obtain ⟨a, ρ1, e1, as, ρ2, e2, q⟩ := q
  exact ⟨_, ρ2, by unfold mA; rw [e1]; show (mA ms ρ1).bind _ = _; rw [e2]; rfl, q⟩
theorem w_snil (q : QA [] ρ) : SatA (mAS [] ρ) QA := ⟨[], ρ, rfl, q⟩
theorem w_sone {ms : List AI} (q : Sat (m ρ) fun a ρ1 => SatA (mAS ms ρ1) fun as ρ2 => QA (a :: as) ρ2) : SatA (mAS (.one m :: ms) ρ) QA := by
  obtain ⟨a, ρ1, e1, as, ρ2, e2, q⟩ := q
  exact ⟨_, ρ2, by unfold mAS; rw [e1]; show (mAS ms ρ1).bind _ = _; rw [e2]; rfl, q⟩
def ITEMS (o : Option (List D)) (Q : List D → Prop) : Prop := ∃ ds, o = some ds ∧ Q ds
theorem w_sstar {ms : List AI} (q : Sat (m ρ) fun a ρ1 => ITEMS (itemsD a) fun ds => SatA (mAS ms ρ1) fun as ρ2 => QA (ds ++ as) ρ2) : SatA (mAS (.star m :: ms) ρ) QA := by
  obtain ⟨a, ρ1, e1, ds, e3, as, ρ2, e2, q⟩ := q
  exact ⟨_, ρ2, by unfold mAS; rw [e1]; show (match itemsD a with | some ds => _ | none => _) = _; rw [e3]; show (mAS ms ρ1).bind _ = _; rw [e2]; rfl, q⟩
theorem w_itT {ds : List D} {Q : List D → Prop} (q : Q ds) : ITEMS (itemsD (.tuple ds)) Q := ⟨ds, rfl, q⟩
theorem w_itL {ds : List D} {Q : List D → Prop} (q : Q ds) : ITEMS (itemsD (.list ds)) Q := ⟨ds, rfl, q⟩
def LEQ (ds : List D) (P : Prop) : Prop := ds.length ≤ 16777216 ∧ P
theorem leq {ds : List D} {P : Prop} (h : ds.length ≤ 16777216) (q : P) : LEQ ds P := ⟨h, q⟩
theorem w_tupS {as : List AI} (q : SatA (mAS as ρ) fun ds ρ1 => LEQ ds (Q (.tuple ds) ρ1)) : Sat (mTupS as ρ) Q := by
  obtain ⟨ds, ρ1, e1, h, q⟩ := q
  exact ⟨_, ρ1, by unfold mTupS; rw [e1]; show (if ds.length ≤ 16777216 then _ else _) = _; rw [if_pos h], q⟩
theorem w_tup (q : SatA (mA ms ρ) fun ds ρ1 => Q (.tuple ds) ρ1) : Sat (mTup ms ρ) Q := by
  obtain ⟨ds, ρ1, e1, q⟩ := q
  exact ⟨_, ρ1, by unfold mTup; rw [e1]; rfl, q⟩
theorem w_lst (q : SatA (mA ms ρ) fun ds ρ1 => Q (.list ds) ρ1) : Sat (mLst ms ρ) Q := by
  obtain ⟨ds, ρ1, e1, q⟩ := q
  exact ⟨_, ρ1, by unfold mLst; rw [e1]; rfl, q⟩
theorem w_cb {f : List D → Option D} (q : SatA (mA ms ρ) fun ds ρ1 => VAL (f ds) fun d => Q d ρ1) : Sat (mCB f ms ρ) Q := by
  obtain ⟨ds, ρ1, e1, d, e2, q⟩ := q
  exact ⟨d, ρ1, by unfold mCB; rw [e1]; show ret _ _ = _; rw [e2]; rfl, q⟩
theorem w_call {f : MF} (q : SatA (mA ms ρ) fun ds ρ1 => SatP (f ds) fun d => Q d ρ1) : Sat (mCall f ms ρ) Q := by
  obtain ⟨ds, ρ1, e1, d, e2, q⟩ := q
  exact ⟨d, ρ1, by unfold mCall; rw [e1]; show (f ds).nx.bind _ = _; rw [e2]; rfl, q⟩
def MU (o : Option D) (Q : D → Prop) : Prop := ∃ d, o = some d ∧ Q d
theorem mu_own {Q : D → Prop} (l : LK ρ i (.own d)) (q : Q d) : MU (mu ρ i) Q := ⟨d, by unfold mu; rw [show ρ[i]? = some (.own d) from l], q⟩
theorem mu_io {Q : D → Prop} (l : LK ρ i (.io d)) (q : Q d) : MU (mu ρ i) Q := ⟨d, by unfold mu; rw [show ρ[i]? = some (.io d) from l], q⟩
theorem mu_own' (l : LK ρ i (.own d)) : mu ρ i = some d := by unfold mu; rw [show ρ[i]? = some (.own d) from l]
theorem mu_io' (l : LK ρ i (.io d)) : mu ρ i = some d := by unfold mu; rw [show ρ[i]? = some (.io d) from l]
theorem put_own (l : LK ρ i (.own d)) (q : SETS (ρ.set i (.own e)) N) : SETS (putMu ρ i e) N := by unfold putMu; rw [show ρ[i]? = some (.own d) from l]; exact q
theorem put_io (l : LK ρ i (.io d)) (q : SETS (ρ.set i (.io e)) N) : SETS (putMu ρ i e) N := by unfold putMu; rw [show ρ[i]? = some (.io d) from l]; exact q
theorem w_callI {f : MFi} (q : MU (mu ρ j) fun _ => SatA (mA ms ρ) fun ds ρ1 => MU (mu ρ1 j) fun d0 => SatI (f d0 ds) fun d d' => SETS (putMu ρ1 j d') fun ρ2 => Q d ρ2) : Sat (mCallI f j ms ρ) Q := by
  obtain ⟨d0, e0, ds, ρ1, e1, d1, e2, d, d', e3, q⟩ := q
  exact ⟨d, _, by unfold mCallI; rw [e0]; show (mA ms ρ).bind _ = _; rw [e1]; show (match mu ρ1 j with | none => _ | some d0 => _) = _; rw [e2]; show (f d1 ds).nx.bind _ = _; rw [e3]; rfl, q⟩
theorem w_peek (q : MU (mu ρ j) fun _ => Sat (m ρ) fun a ρ1 => MU (mu ρ1 j) fun d => VAL (f d a) fun z => Q z ρ1) : Sat (mPk j m f ρ) Q := by
  obtain ⟨d0, e0, a, ρ1, e1, d1, e2, z, e3, q⟩ := q
  exact ⟨z, ρ1, by unfold mPk; rw [e0]; show mPeek j m f ρ = _; unfold mPeek; rw [e0]; show (m ρ).bind _ = _; rw [e1]; show (match mu ρ1 j with | none => _ | some d => _) = _; rw [e2]; show ret _ _ = _; rw [e3]; rfl, q⟩
theorem mu_val (l : LK ρ i (.val d)) : mu ρ i = none := by unfold mu; rw [show ρ[i]? = some (.val d) from l]
theorem w_pkv (l : LK ρ j (.val d)) (q : Sat (m ρ) fun a ρ1 => VAL (f d a) fun z => Q z ρ1) : Sat (mPk j m f ρ) Q := by
  have : mPk j m f ρ = mOp f (mVar j) m ρ := by unfold mPk; rw [mu_val l]
  rw [this]
  exact w_op (w_val l q)
theorem w_getV (q : Sat (mPk j mk fGetD ρ) Q) : Sat (mGetV j mk ρ) Q := q
theorem w_ixV (q : Sat (mPk j mk fIxL ρ) Q) : Sat (mIxV j mk ρ) Q := q
theorem w_get (q : Sat (mOp fGetD m mk ρ) Q) : Sat (mGet m mk ρ) Q := q
theorem w_lenO {ds : List D} (l : LK ρ j (.own (.list ds))) (q : Q (.int ds.length) ρ) : Sat (mLenV j ρ) Q := ⟨_, ρ, by unfold mLenV; rw [mu_own' l], q⟩
theorem w_lenv (l : LK ρ j (.val d)) (q : VAL (cbLen [d]) fun d => Q d ρ) : Sat (mLenV j ρ) Q := by
  have : mLenV j ρ = mCB cbLen [mVar j] ρ := by unfold mLenV; rw [mu_val l]
  rw [this]
  exact w_cb (w_cons (w_val l (w_nil q)))
def IFV (b : Bool) (A C : Prop) : Prop := if b = true then A else C
def BL (d : D) (N : Bool → Prop) : Prop := ∃ b, d = .bool b ∧ N b
theorem bl_ {b : Bool} {N : Bool → Prop} (q : N b) : BL (.bool b) N := ⟨b, rfl, q⟩
theorem w_B (q : Sat (m ρ) fun d ρ1 => BL d fun b => QB b ρ1) : SatT (mB m ρ) QB := by
  obtain ⟨d, ρ1, e1, b, rfl, q⟩ := q
  exact ⟨b, ρ1, by unfold mB; rw [e1]; rfl, q⟩
theorem w_andT {a b : MT} (q : SatT (a ρ) fun c ρ1 => IFV c (SatT (b ρ1) QB) (QB false ρ1)) : SatT (mAndT a b ρ) QB := by
  obtain ⟨c, ρ1, e1, q⟩ := q
  unfold mAndT
  rw [e1]
  show SatT (if c = true then b ρ1 else .ok (false, ρ1)) QB
  unfold IFV at q
  split at q
  · rw [if_pos (by assumption)]; exact q
  · rw [if_neg (by assumption)]; exact ⟨_, _, rfl, q⟩
theorem w_orT {a b : MT} (q : SatT (a ρ) fun c ρ1 => IFV c (QB true ρ1) (SatT (b ρ1) QB)) : SatT (mOrT a b ρ) QB := by
  obtain ⟨c, ρ1, e1, q⟩ := q
  unfold mOrT
  rw [e1]
  show SatT (if c = true then .ok (true, ρ1) else b ρ1) QB
  unfold IFV at q
  split at q
  · rw [if_pos (by assumption)]; exact ⟨_, _, rfl, q⟩
  · rw [if_neg (by assumption)]; exact q
theorem w_notT {a : MT} (q : SatT (a ρ) fun c ρ1 => QB (!c) ρ1) : SatT (mNotT a ρ) QB := by
  obtain ⟨c, ρ1, e1, q⟩ := q
  exact ⟨!c, ρ1, by unfold mNotT; rw [e1]; rfl, q⟩
theorem w_andV (q : Sat (ma ρ) fun d ρ1 => BL d fun c => IFV c (Sat (mb ρ1) Q) (Q (.bool false) ρ1)) : Sat (mAndV ma mb ρ) Q := by
  obtain ⟨d, ρ1, e1, c, rfl, q⟩ := q
  unfold mAndV mB
  rw [e1]
  show Sat (if c = true then mb ρ1 else .ok (.bool false, ρ1)) Q
  unfold IFV at q
  split at q
  · rw [if_pos (by assumption)]; exact q
  · rw [if_neg (by assumption)]; exact ⟨_, _, rfl, q⟩
theorem w_orV (q : Sat (ma ρ) fun d ρ1 => BL d fun c => IFV c (Q (.bool true) ρ1) (Sat (mb ρ1) Q)) : Sat (mOrV ma mb ρ) Q := by
  obtain ⟨d, ρ1, e1, c, rfl, q⟩ := q
  unfold mOrV mB
  rw [e1]
  show Sat (if c = true then .ok (.bool true, ρ1) else mb ρ1) Q
  unfold IFV at q
  split at q
  · rw [if_pos (by assumption)]; exact ⟨_, _, rfl, q⟩
  · rw [if_neg (by assumption)]; exact q
theorem w_notV (q : Sat (ma ρ) fun d ρ1 => BL d fun c => Q (.bool (!c)) ρ1) : Sat (mNotV ma ρ) Q := by
  obtain ⟨d, ρ1, e1, c, rfl, q⟩ := q
  exact ⟨_, ρ1, by unfold mNotV mB; rw [e1]; rfl, q⟩
theorem w_if (q : SatT (mt ρ) fun c ρ1 => IFV c (Sat (ma ρ1) Q) (Sat (mb ρ1) Q)) : Sat (mIf mt ma mb ρ) Q := by
  obtain ⟨c, ρ1, e1, q⟩ := q
  unfold mIf
  rw [e1]
  show Sat (if c = true then ma ρ1 else mb ρ1) Q
  unfold IFV at q
  split at q
  · rw [if_pos (by assumption)]; exact q
  · rw [if_neg (by assumption)]; exact q
theorem w_chain (q : Sat (ma ρ) fun a ρ1 => Sat (mb ρ1) fun b ρ2 => VAL (f a b) fun z => BL z fun c => IFV c (Sat (mc ρ2) fun d ρ3 => VAL (g b d) fun z => Q z ρ3) (Q (.bool false) ρ2)) : Sat (mChain f g ma mb mc ρ) Q := by
  obtain ⟨a, ρ1, e1, b, ρ2, e2, z, e3, c, rfl, q⟩ := q
  unfold mChain
  rw [e1]
  show Sat ((mb ρ1).bind _) Q
  rw [e2]
  show Sat (match (f a b).bind bl1 with | some true => _ | some false => _ | none => _) Q
  rw [e3]
  unfold IFV at q
  cases c with
  | true =>
    rw [if_pos rfl] at q
    obtain ⟨d, ρ3, e4, z, e5, q⟩ := q
    refine ⟨z, ρ3, ?_, q⟩
    show (mc ρ2).bind _ = _
    rw [e4]
    show ret _ _ = _
    rw [e5]
    rfl
  | false => rw [if_neg Bool.false_ne_true] at q; exact ⟨_, _, rfl, q⟩
def ISL (z : D) (P : Prop) : Prop := (∃ xs, z = .list xs) ∧ P
theorem isl {xs : List D} {P : Prop} (q : P) : ISL (.list xs) P := ⟨⟨_, rfl⟩, q⟩
def APP (z a : D) (ρ : Env) (j : Nat) (N : Env → Prop) : Prop := ∃ ds : List D, z = .list ds ∧ ds.length < 16777216 ∧ SETS (putMu ρ j (.list (ds ++ [a]))) N
theorem app_ {ds : List D} (h : ds.length < 16777216) (q : SETS (putMu ρ j (.list (ds ++ [d]))) N) : APP (.list ds) d ρ j N := ⟨_, rfl, h, q⟩
theorem w_app (q : MU (mu ρ j) fun z => ISL z (Sat (m ρ) fun a ρ1 => MU (mu ρ1 j) fun z => APP z a ρ1 j fun ρ2 => Q .none ρ2)) : Sat (mApp j m ρ) Q := by
  obtain ⟨_, e0, ⟨xs, rfl⟩, a, ρ1, e1, _, e2, ds, rfl, hl, q⟩ := q
  exact ⟨.none, _, by unfold mApp; rw [e0]; show (m ρ).bind _ = _; rw [e1]; show (match mu ρ1 j with | some (.list ds) => _ | _ => _) = _; rw [e2]; show (if ds.length < 16777216 then _ else _) = _; rw [if_pos hl], q⟩
theorem w_ins (q : MU (mu ρ j) fun z => (∃ xs, z = .list xs) ∧ SatA (mA [mi, m] ρ) fun as ρ1 => MU (mu ρ1 j) fun z => ∃ (ds : List D) (k : Int) (y : D), z = .list ds ∧ as = [.int k, y] ∧ (ds.length < 16777216 ∧ 0 ≤ k ∧ k < 1000000000) ∧ SETS (putMu ρ1 j (.list (ds.take k.toNat ++ [y] ++ ds.drop k.toNat))) fun ρ2 => Q .none ρ2) : Sat (mIns j mi m ρ) Q := by
  obtain ⟨_, e0, ⟨xs, rfl⟩, as, ρ1, e1, _, e2, ds, k, y, rfl, rfl, hl, q⟩ := q
  exact ⟨.none, _, by unfold mIns; rw [e0]; show (mA [mi, m] ρ).bind _ = _; rw [e1]; dsimp only [Res.bind]; rw [e2]; dsimp only; rw [if_pos hl], q⟩
theorem w_isi {n : String} (q : Sat (m ρ) fun d ρ1 => ∃ b, isiD n d = some b ∧ Q (.bool b) ρ1) : Sat (mIsi n m ρ) Q := by
  obtain ⟨d, ρ1, e1, b, e2, q⟩ := q
  exact ⟨_, ρ1, by unfold mIsi; rw [e1]; dsimp only [Res.bind]; rw [e2], q⟩
theorem w_none {QO : Option Int → Env → Prop} (q : QO none ρ) : SatO (mNoPart ρ) QO := ⟨_, _, rfl, q⟩
def PRT (d : D) (N : Int → Prop) : Prop := ∃ i, d = .int i ∧ N i
theorem prt {i : Int} {N : Int → Prop} (q : N i) : PRT (.int i) N := ⟨i, rfl, q⟩
theorem w_part {QO : Option Int → Env → Prop} (q : Sat (m ρ) fun d ρ1 => PRT d fun i => QO (some i) ρ1) : SatO (mPart m ρ) QO := by
  obtain ⟨d, ρ1, e1, i, rfl, q⟩ := q
  exact ⟨_, ρ1, by unfold mPart; rw [e1]; rfl, q⟩
theorem w_sl {f : D → Option Int → Option Int → Option D} {ml mh : MO} (q : Sat (m ρ) fun d ρ1 => SatO (ml ρ1) fun l ρ2 => SatO (mh ρ2) fun h ρ3 => VAL (f d l h) fun z => Q z ρ3) : Sat (mSl f m ml mh ρ) Q := by
  obtain ⟨d, ρ1, e1, l, ρ2, e2, h, ρ3, e3, z, e4, q⟩ := q
  exact ⟨z, ρ3, by unfold mSl; rw [e1]; dsimp only [Res.bind]; rw [e2]; dsimp only; rw [e3]; dsimp only; rw [e4]; rfl, q⟩
theorem w_d0 (q : Q (.dict []) ρ) : Sat (mDict0 ρ) Q := ⟨_, _, rfl, q⟩
/-! statements -/
theorem w_seq (q : SatS (m1 ρ) (fun ρ' => SatS (m2 ρ') N Rt B C Xp) Rt B C Xp) : SatS (mSeq m1 m2 ρ) N Rt B C Xp := by
  unfold mSeq
  cases e : m1 ρ <;> rw [e] at q <;> exact q
theorem w_next (q : N ρ) : SatS (mNext ρ) N Rt B C Xp := q
theorem w_drop (q : Sat (m ρ) fun _ ρ1 => N ρ1) : SatS (mDrop m ρ) N Rt B C Xp := by
  obtain ⟨d, ρ1, e1, q⟩ := q
  unfold mDrop
  rw [e1]
  exact q
theorem w_ret (q : Sat (m ρ) Rt) : SatS (mRet m ρ) N Rt B C Xp := by
  obtain ⟨d, ρ1, e1, q⟩ := q
  unfold mRet
  rw [e1]
  exact q
theorem w_retN (q : Rt .none ρ) : SatS (mRetN ρ) N Rt B C Xp := q
theorem w_brk (q : B ρ) : SatS (mBrk ρ) N Rt B C Xp := q
theorem w_cnt (q : C ρ) : SatS (mCnt ρ) N Rt B C Xp := q
theorem w_ifS (q : SatT (mt ρ) fun c ρ1 => IFV c (SatS (m1 ρ1) N Rt B C Xp) (SatS (m2 ρ1) N Rt B C Xp)) : SatS (mIfS mt m1 m2 ρ) N Rt B C Xp := by
  obtain ⟨c, ρ1, e1, q⟩ := q
  unfold mIfS
  rw [e1]
  show SatS (if c = true then m1 ρ1 else m2 ρ1) N Rt B C Xp
  unfold IFV at q
  split at q
  · rw [if_pos (by assumption)]; exact q
  · rw [if_neg (by assumption)]; exact q
theorem w_asg {tg : MG} (q : Sat (m ρ) fun d ρ1 => TG (tg d ρ1) N) : SatS (mAsg tg m ρ) N Rt B C Xp := by
  obtain ⟨d, ρ1, e1, ρ2, e2, q⟩ := q
  unfold mAsg
  rw [e1]
  show SatS (oOut (tg d ρ1) .nx) N Rt B C Xp
  rw [e2]
  exact q
theorem nio_val (l : LK ρ i (.val d)) : notIo ρ i = true := by unfold notIo; rw [show ρ[i]? = some (.val d) from l]
theorem nio_no (l : LK ρ i .no) : notIo ρ i = true := by unfold notIo; rw [show ρ[i]? = some .no from l]
theorem nio_own (l : LK ρ i (.own d)) : notIo ρ i = true := by unfold notIo; rw [show ρ[i]? = some (.own d) from l]
theorem tg_n (h : notIo ρ i = true) (q : SETS (ρ.set i (.val d)) N) : TG (gN i d ρ) N := ⟨_, by unfold gN; rw [if_pos h], q⟩
theorem tg_set (h : notIo ρ i = true) (q : SETS (ρ.set i (.val d)) N) : TG (some (ρ.set i (.val d))) N := ⟨_, rfl, q⟩
def TGS (o : Option Env) (N : Env → Prop) : Prop := TG o N
theorem tg_t {n : Nat} {gs : MGs} {ds : List D} (h : ds.length = n) (q : TGS (gs ds ρ) N) : TG (gT n gs (.tuple ds) ρ) N := by
  unfold gT
  dsimp only
  rw [if_pos h]
  exact q
theorem tgs_nil (q : N ρ) : TGS (gNils [] ρ) N := ⟨_, rfl, q⟩
theorem tgs_cons {g : MG} {gs : MGs} {ds : List D} (q : TG (g d ρ) fun ρ1 => TGS (gs ds ρ1) N) : TGS (gConss g gs (d :: ds) ρ) N := by
  obtain ⟨ρ1, e1, ρ2, e2, q⟩ := q
  refine ⟨ρ2, ?_, q⟩
  show (g d ρ).bind (gs ds) = some ρ2
  rw [e1]
  exact e2
def SETO (ρ : Env) (i : Nat) (d : D) (N : Env → Prop) : Prop := notIo ρ i = true ∧ SETS (ρ.set i (.own d)) N
theorem seto (h : notIo ρ i = true) (q : SETS (ρ.set i (.own d)) N) : SETO ρ i d N := ⟨h, q⟩
theorem w_setO (q : Sat (m ρ) fun d ρ1 => SETO ρ1 i d N) : SatS (mSetO i m ρ) N Rt B C Xp := by
  obtain ⟨d, ρ1, e1, h, q⟩ := q
  unfold mSetO
  rw [e1]
  show SatS (if notIo ρ1 i = true then _ else _) N Rt B C Xp
  rw [if_pos h]
  exact q
theorem and_rfl {α : Type} {a : α} {P : Prop} (q : P) : a = a ∧ P := ⟨rfl, q⟩
theorem w_putO (q : Sat (mv ρ) fun d ρ1 => MU (mu ρ1 j) fun _ => Sat (mk ρ1) fun k ρ2 => MU (mu ρ2 j) fun z => ∃ kds kk, z = .dict kds ∧ keyD k = some kk ∧ kds.length < 16777216 ∧ SETS (putMu ρ2 j (.dict (putD kds kk d))) N) : SatS (mPutO j mk mv ρ) N Rt B C Xp := by
  obtain ⟨d, ρ1, e1, d0, e0, k, ρ2, e2, _, e3, kds, kk, rfl, e4, hl, q⟩ := q
  unfold mPutO
  rw [e1]
  dsimp only [Res.out]
  rw [e0]
  dsimp only
  rw [e2]
  dsimp only
  rw [e3]
  dsimp only
  rw [e4]
  dsimp only
  rw [if_pos hl]
  exact q
theorem w_setIx (q : Sat (mv ρ) fun d ρ1 => MU (mu ρ1 j) fun _ => Sat (mi ρ1) fun k ρ2 => MU (mu ρ2 j) fun z => ∃ (ds : List D) (i : Int) (n : Nat), z = .list ds ∧ k = .int i ∧ ixN ds.length i = some n ∧ SETS (putMu ρ2 j (.list (ds.set n d))) N) : SatS (mSetIx j mi mv ρ) N Rt B C Xp := by
  obtain ⟨d, ρ1, e1, d0, e0, k, ρ2, e2, _, e3, ds, i, n, rfl, rfl, e4, q⟩ := q
  unfold mSetIx
  rw [e1]
  dsimp only [Res.out]
  rw [e0]
  dsimp only
  rw [e2]
  dsimp only
  rw [e3]
  dsimp only
  rw [e4]
  exact q
/-! loops -/
def FORW (tg : MG) (b : MS) (xs : List D) (ρ : Env) (N : Env → Prop) (Rt : D → Env → Prop) (Xp : Str → D → Env → Prop) : Prop := ∀ B C, SatS (mForL tg b xs ρ) N Rt B C Xp
theorem w_for {it : MA} {tg : MG} {b : MS} (q : SatA (it ρ) fun xs ρ1 => FORW tg b xs ρ1 N Rt Xp) : SatS (mFor it tg b ρ) N Rt B C Xp := by
  obtain ⟨xs, ρ1, e1, q⟩ := q
  unfold mFor
  rw [e1]
  exact q B C
theorem for_nil {tg : MG} {b : MS} (q : N ρ) : FORW tg b [] ρ N Rt Xp := fun _ _ => q
theorem for_cons {tg : MG} {b : MS} {x : D} {xs : List D} (q : TG (tg x ρ) fun ρ1 => SatS (b ρ1) (fun ρ2 => FORW tg b xs ρ2 N Rt Xp) Rt N (fun ρ2 => FORW tg b xs ρ2 N Rt Xp) Xp) : FORW tg b (x :: xs) ρ N Rt Xp := by
  obtain ⟨ρ1, e1, q⟩ := q
  intro B C
  unfold mForL
  rw [e1]
  dsimp only [oOut]
  cases e : b ρ1 <;> rw [e] at q <;> first | exact q B C | exact q
/-- by an invariant over the turn -/
theorem for_inv {tg : MG} {b : MS} {xs : List D} (I : Nat → Env → Prop) (h0 : I 0 ρ) (hs : ∀ i x ρ, xs[i]? = some x → I i ρ → TG (tg x ρ) fun ρ1 => SatS (b ρ1) (I (i + 1)) Rt N (I (i + 1)) Xp) (hd : ∀ ρ, I xs.length ρ → N ρ) : FORW tg b xs ρ N Rt Xp := by
  have key : ∀ (ys : List D) (k : Nat) (ρ : Env), (∀ i x, ys[i]? = some x → xs[k + i]? = some x) → k + ys.length = xs.length → I k ρ → FORW tg b ys ρ N Rt Xp := by
    intro ys
    induction ys with
    | nil => intro k ρ _ hk h; exact for_nil (hd ρ (by rw [← hk]; exact h))
    | cons y ys ih =>
      intro k ρ hg hk h
      refine for_cons ?_
      obtain ⟨ρ1, e1, q⟩ := hs k y ρ (by simpa using hg 0 y rfl) h
      refine ⟨ρ1, e1, ?_⟩
      have nxt : ∀ ρ2, I (k + 1) ρ2 → FORW tg b ys ρ2 N Rt Xp := fun ρ2 h2 => ih (k + 1) ρ2 (fun i x e => by have := hg (i + 1) x (by simpa using e); rw [show k + (i + 1) = k + 1 + i by omega] at this; exact this) (by rw [List.length_cons] at hk; omega) h2
      have fin : SatS (b ρ1) (fun ρ2 => FORW tg b ys ρ2 N Rt Xp) Rt N (fun ρ2 => FORW tg b ys ρ2 N Rt Xp) Xp := by
        cases e : b ρ1 <;> rw [e] at q <;> first | exact nxt _ q | exact q
      exact fin
  exact key xs 0 ρ (fun i x e => by rw [Nat.zero_add]; exact e) (by omega) h0
theorem w_while {n : Env → Nat} (q : SatS (mWhile mt m1 (n ρ) ρ) N Rt B C Xp) : SatS ((fun ρ => mWhile mt m1 (n ρ) ρ) ρ) N Rt B C Xp := q
/-- by an invariant and a measure -/
theorem while_inv {fuel : Nat} (I : Env → Prop) (μ : Env → Nat) (h0 : I ρ) (hf : μ ρ < fuel) (hs : ∀ ρ, I ρ → SatT (mt ρ) fun c ρ1 => IFV c (SatS (m1 ρ1) (fun ρ2 => I ρ2 ∧ μ ρ2 < μ ρ) Rt N (fun ρ2 => I ρ2 ∧ μ ρ2 < μ ρ) Xp) (N ρ1)) : SatS (mWhile mt m1 fuel ρ) N Rt B C Xp := by
  induction fuel generalizing ρ with
  | zero => omega
  | succ k ih =>
    unfold mWhile
    obtain ⟨c, ρ1, e1, q⟩ := hs ρ h0
    rw [e1]
    show SatS (if c = true then _ else _) N Rt B C Xp
    unfold IFV at q
    split at q
    · rw [if_pos (by assumption)]
      cases e : m1 ρ1 with
      | nx ρ2 => rw [e] at q; have q : I ρ2 ∧ μ ρ2 < μ ρ := q; exact ih q.1 (by omega)
      | ct ρ2 => rw [e] at q; have q : I ρ2 ∧ μ ρ2 < μ ρ := q; exact ih q.1 (by omega)
      | bk ρ2 => rw [e] at q; exact q
      | rt d ρ2 => rw [e] at q; exact q
      | exc c d ρ2 => rw [e] at q; exact q
      | stuck => rw [e] at q; exact q
    · rw [if_neg (by assumption)]; exact q
def ISLs (d : D) (N : List D → Prop) : Prop := ∃ ds, d = .list ds ∧ N ds
theorem isls {ds : List D} {N : List D → Prop} (q : N ds) : ISLs (.list ds) N := ⟨ds, rfl, q⟩
def ISTs (d : D) (N : List D → Prop) : Prop := ∃ ds, d = .tuple ds ∧ N ds
theorem ists {ds : List D} {N : List D → Prop} (q : N ds) : ISTs (.tuple ds) N := ⟨ds, rfl, q⟩
theorem w_itL1 (q : Sat (m ρ) fun d ρ1 => ISLs d fun ds => QA ds ρ1) : SatA (itL m ρ) QA := by
  obtain ⟨d, ρ1, e1, ds, rfl, q⟩ := q
  exact ⟨ds, ρ1, by unfold itL; rw [e1]; rfl, q⟩
theorem w_itScr {ns : List Int} (l : LK ρ i (.val (scr ns))) (q : QA (ns.map .int) ρ) : SatA (itL (mVar i) ρ) QA := by
  refine ⟨_, ρ, ?_, q⟩
  unfold itL mVar
  rw [show ρ[i]? = some (.val (scr ns)) from l]
  rfl
theorem w_itT1 (q : Sat (m ρ) fun d ρ1 => ISTs d fun ds => QA ds ρ1) : SatA (itT m ρ) QA := by
  obtain ⟨d, ρ1, e1, ds, rfl, q⟩ := q
  exact ⟨ds, ρ1, by unfold itT; rw [e1]; rfl, q⟩
def R1 (ds : List D) (N : List D → Prop) : Prop := ∃ n, ds = [.int n] ∧ (-4611686018427387904 ≤ n ∧ n < 4611686018427387904) ∧ N (rngD 0 n.toNat)
theorem r1_ {n : Int} {N : List D → Prop} (h : -4611686018427387904 ≤ n ∧ n < 4611686018427387904) (q : N (rngD 0 n.toNat)) : R1 [.int n] N := ⟨n, rfl, h, q⟩
def R2 (ds : List D) (N : List D → Prop) : Prop := ∃ i n, ds = [.int i, .int n] ∧ ((-4611686018427387904 ≤ i ∧ i < 4611686018427387904) ∧ -4611686018427387904 ≤ n ∧ n < 4611686018427387904) ∧ N (rngD i (n - i).toNat)
theorem r2_ {i n : Int} {N : List D → Prop} (h : (-4611686018427387904 ≤ i ∧ i < 4611686018427387904) ∧ -4611686018427387904 ≤ n ∧ n < 4611686018427387904) (q : N (rngD i (n - i).toNat)) : R2 [.int i, .int n] N := ⟨i, n, rfl, h, q⟩
theorem w_r1 (q : SatA (mA ms ρ) fun ds ρ1 => R1 ds fun xs => QA xs ρ1) : SatA (itR1 ms ρ) QA := by
  obtain ⟨ds, ρ1, e1, n, rfl, h, q⟩ := q
  exact ⟨_, ρ1, by unfold itR1; rw [e1]; dsimp only [Res.bind]; rw [if_pos (by unfold rOk; rw [decide_eq_true h.1, decide_eq_true h.2]; rfl)], q⟩
theorem w_r2 (q : SatA (mA ms ρ) fun ds ρ1 => R2 ds fun xs => QA xs ρ1) : SatA (itR2 ms ρ) QA := by
  obtain ⟨ds, ρ1, e1, i, n, rfl, h, q⟩ := q
  exact ⟨_, ρ1, by unfold itR2; rw [e1]; dsimp only [Res.bind]; rw [if_pos (by unfold rOk; rw [decide_eq_true h.1.1, decide_eq_true h.1.2, decide_eq_true h.2.1, decide_eq_true h.2.2]; rfl)], q⟩
theorem w_z (q : SatA (mA ms ρ) fun ds ρ1 => ∃ xs ys, (ds = [.list xs, .list ys] ∨ ds = [.tuple xs, .tuple ys]) ∧ QA (zipD xs ys) ρ1) : SatA (itZ ms ρ) QA := by
  obtain ⟨ds, ρ1, e1, xs, ys, rfl | rfl, q⟩ := q
  · exact ⟨_, ρ1, by unfold itZ; rw [e1]; rfl, q⟩
  · exact ⟨_, ρ1, by unfold itZ; rw [e1]; rfl, q⟩
/-! comprehensions -/
def LCW (tg : MG) (mt : MT) (me : ME) (vs : List Nat) (xs acc : List D) (ρ : Env) (Q : List D → Env → Prop) : Prop := SatA (mLcL tg mt me vs xs acc ρ) Q
def WIPE (ρ : Env) (N : Env → Prop) : Prop := N ρ
theorem w_lc {it : MA} {tg : MG} {vs : List Nat} (q : SatA (it ρ) fun xs ρ1 => vs.all (notIo ρ1) = true ∧ WIPE (wipeE ρ1 vs) fun ρ0 => LCW tg mt m vs xs [] ρ0 fun ds ρ2 => WIPE (restE ρ1 ρ2 vs) fun ρ3 => Q (.list ds) ρ3) : Sat (mLc it tg mt m vs ρ) Q := by
  obtain ⟨xs, ρ1, e1, h, ds, ρ2, e2, q⟩ := q
  exact ⟨_, _, by unfold mLc; rw [e1]; dsimp only [Res.bind]; rw [if_pos h, e2], q⟩
theorem lc_nil {tg : MG} {vs : List Nat} {acc : List D} (q : QA acc ρ) : LCW tg mt m vs [] acc ρ QA := ⟨_, _, rfl, q⟩
theorem lc_cons {tg : MG} {vs : List Nat} {acc : List D} {x : D} {xs : List D} (q : TG (tg x ρ) fun ρ1 => SatT (mt ρ1) fun c ρ2 => IFV c (Sat (m ρ2) fun d ρ3 => (acc.length < 16777216 ∧ vs.all (notIo ρ3) = true) ∧ WIPE (wipeE ρ3 vs) fun ρ4 => LCW tg mt m vs xs (acc ++ [d]) ρ4 QA) (vs.all (notIo ρ2) = true ∧ WIPE (wipeE ρ2 vs) fun ρ4 => LCW tg mt m vs xs acc ρ4 QA)) : LCW tg mt m vs (x :: xs) acc ρ QA := by
  obtain ⟨ρ1, e1, c, ρ2, e2, q⟩ := q
  unfold LCW mLcL
  rw [e1]
  dsimp only
  rw [e2]
  show SatA (if c = true then _ else _) QA
  unfold IFV at q
  split at q
  · rw [if_pos (by assumption)]
    obtain ⟨d, ρ3, e3, h, q⟩ := q
    rw [e3]
    show SatA (if acc.length < 16777216 ∧ vs.all (notIo ρ3) = true then _ else _) QA
    rw [if_pos h]
    exact q
  · rw [if_neg (by assumption), if_pos q.1]
    exact q.2
/-- by an invariant over the turn: the list so far, the slots -/
theorem lc_inv {tg : MG} {vs : List Nat} {xs : List D} (I : Nat → List D → Env → Prop) (h0 : I 0 [] ρ) (hl : xs.length < 16777216) (hs : ∀ i x acc ρ, xs[i]? = some x → I i acc ρ → TG (tg x ρ) fun ρ1 => SatT (mt ρ1) fun c ρ2 => IFV c (Sat (m ρ2) fun d ρ3 => vs.all (notIo ρ3) = true ∧ WIPE (wipeE ρ3 vs) fun ρ4 => I (i + 1) (acc ++ [d]) ρ4) (vs.all (notIo ρ2) = true ∧ WIPE (wipeE ρ2 vs) fun ρ4 => I (i + 1) acc ρ4))
    (hd : ∀ acc ρ, I xs.length acc ρ → QA acc ρ) : LCW tg mt m vs xs [] ρ QA := by
  have key : ∀ (ys : List D) (k : Nat) (acc : List D) (ρ : Env), (∀ i x, ys[i]? = some x → xs[k + i]? = some x) → k + ys.length = xs.length → acc.length ≤ k → I k acc ρ → LCW tg mt m vs ys acc ρ QA := by
    intro ys
    induction ys with
    | nil => intro k acc ρ _ hk _ h; exact lc_nil (hd acc ρ (by rw [← hk]; exact h))
    | cons y ys ih =>
      intro k acc ρ hg hk ha h
      refine lc_cons ?_
      rw [List.length_cons] at hk
      obtain ⟨ρ1, e1, c, ρ2, e2, q⟩ := hs k y acc ρ (by simpa using hg 0 y rfl) h
      have nxt : ∀ acc2 ρ2, acc2.length ≤ k + 1 → I (k + 1) acc2 ρ2 → LCW tg mt m vs ys acc2 ρ2 QA := fun acc2 ρ2 h1 h2 => ih (k + 1) acc2 ρ2 (fun i x e => by have := hg (i + 1) x (by simpa using e); rw [show k + (i + 1) = k + 1 + i by omega] at this; exact this) (by omega) h1 h2
      refine ⟨ρ1, e1, c, ρ2, e2, ?_⟩
      unfold IFV at q ⊢
      split at q
      · rw [if_pos (by assumption)]
        obtain ⟨d, ρ3, e3, h3, q⟩ := q
        exact ⟨d, ρ3, e3, ⟨by omega, h3⟩, nxt _ _ (by rw [List.length_append, List.length_singleton]; omega) q⟩
      · rw [if_neg (by assumption)]
        exact ⟨q.1, nxt _ _ (by omega) q.2⟩
  exact key xs 0 [] ρ (fun i x e => by rw [Nat.zero_add]; exact e) (by omega) (Nat.zero_le _) h0
theorem wp1 {v : Nat} (q : SETS (ρ.set v .no) N) : WIPE (wipeE ρ [v]) N := q
theorem wp2 {v w : Nat} (q : SETS (ρ.set w .no) fun ρ => SETS (ρ.set v .no) N) : WIPE (wipeE ρ [v, w]) N := q
theorem rs1 {ρ0 : Env} {v : Nat} (l : LK ρ0 v .no) (q : SETS (ρ.set v .no) N) : WIPE (restE ρ0 ρ [v]) N := by
  unfold WIPE restE restE
  rw [show ρ0[v]? = some .no from l]
  exact q
theorem rs1v {ρ0 : Env} {v : Nat} (l : LK ρ0 v (.val d)) (q : SETS (ρ.set v (.val d)) N) : WIPE (restE ρ0 ρ [v]) N := by
  unfold WIPE restE restE
  rw [show ρ0[v]? = some (.val d) from l]
  exact q
theorem rs2 {ρ0 : Env} {v w : Nat} (l : LK ρ0 v .no) (l2 : LK ρ0 w .no) (q : SETS (ρ.set w .no) fun ρ => SETS (ρ.set v .no) N) : WIPE (restE ρ0 ρ [v, w]) N := by
  unfold WIPE restE restE restE
  rw [show ρ0[v]? = some .no from l, show ρ0[w]? = some .no from l2]
  exact q
def LCB (ρ : Env) (vs : List Nat) (N : Env → Prop) : Prop := vs.all (notIo ρ) = true ∧ WIPE (wipeE ρ vs) N
theorem lcb {vs : List Nat} (h : vs.all (notIo ρ) = true) (q : WIPE (wipeE ρ vs) N) : LCB ρ vs N := ⟨h, q⟩
theorem w_lcw {it : MA} {tg : MG} {vs : List Nat} (q : SatA (it ρ) fun xs ρ1 => LCB ρ1 vs fun ρ0 => LCW tg mt m vs xs [] ρ0 fun ds ρ2 => WIPE (restE ρ1 ρ2 vs) fun ρ3 => Q (.list ds) ρ3) : Sat (mLc it tg mt m vs ρ) Q := w_lc q
/-- [f y for y in ys if p y], the slots stay -/
theorem lc_ft {α : Type} {tg : MG} {vs : List Nat} (ys : List α) (enc : α → D) (p : α → Bool) (f : α → D) {xs : List D} (e : xs = ys.map enc) (hl : ys.length < 16777216)
    (hs : ∀ y ∈ ys, TG (tg (enc y) ρ) fun ρ1 => SatT (mt ρ1) fun c ρ2 => c = p y ∧ (p y = true → Sat (m ρ2) fun d ρ3 => d = f y ∧ LCB ρ3 vs fun ρ4 => ρ4 = ρ) ∧ (p y = false → LCB ρ2 vs fun ρ4 => ρ4 = ρ)) (q : QA ((ys.filter p).map f) ρ) : LCW tg mt m vs xs [] ρ QA := by
  subst e
  refine lc_inv (fun i acc ρ' => ρ' = ρ ∧ acc = ((ys.take i).filter p).map f) ⟨rfl, rfl⟩ (by rw [List.length_map]; exact hl) (fun i x acc ρ' hx h => ?_) (fun acc ρ' h => ?_)
  · obtain ⟨rfl, rfl⟩ := h
    rw [List.getElem?_map] at hx
    cases z : ys[i]? with
    | none => rw [z] at hx; cases hx
    | some y =>
      rw [z] at hx
      cases hx
      obtain ⟨ρ1, e1, c, ρ2, e2, rfl, h1, h2⟩ := hs y (List.mem_of_getElem? z)
      refine ⟨ρ1, e1, _, ρ2, e2, ?_⟩
      cases c : p y with
      | true =>
        obtain ⟨d, ρ3, e3, rfl, b, w⟩ := h1 c
        refine ⟨_, ρ3, e3, b, w, ?_⟩
        rw [List.take_add_one, z, List.filter_append, List.map_append]
        show _ = _ ++ (([y].filter p).map f)
        rw [List.filter_cons, if_pos c]
        rfl
      | false =>
        obtain ⟨b, w⟩ := h2 c
        refine ⟨b, w, ?_⟩
        rw [List.take_add_one, z, List.filter_append, List.map_append]
        show _ = _ ++ (([y].filter p).map f)
        rw [List.filter_cons, if_neg (by rw [c]; exact Bool.false_ne_true)]
        simp
  · obtain ⟨rfl, rfl⟩ := h
    rw [List.length_map, List.take_length]
    exact q
/-- [f y for y in ys], the slots stay -/
theorem lc_mt {α : Type} {tg : MG} {vs : List Nat} (ys : List α) (enc : α → D) (f : α → D) {xs : List D} (e : xs = ys.map enc) (hl : ys.length < 16777216)
    (hs : ∀ y ∈ ys, TG (tg (enc y) ρ) fun ρ1 => Sat (m ρ1) fun d ρ3 => d = f y ∧ LCB ρ3 vs fun ρ4 => ρ4 = ρ) (q : QA (ys.map f) ρ) : LCW tg mYes m vs xs [] ρ QA := by
  refine lc_ft ys enc (fun _ => true) f e hl (fun y hy => ?_) (by rw [List.filter_eq_self.mpr (fun _ _ => rfl)]; exact q)
  obtain ⟨ρ1, e1, d, ρ3, e3, h⟩ := hs y hy
  exact ⟨ρ1, e1, true, ρ1, rfl, rfl, fun _ => ⟨d, ρ3, e3, h⟩, fun z => by cases z⟩
/-- a loop over ys, by what holds behind each beginning -/
theorem for_pre {α : Type} {tg : MG} {b : MS} (ys : List α) (enc : α → D) {xs : List D} (e : xs = ys.map enc) (I : List α → Env → Prop) (h0 : I [] ρ) (hs : ∀ pre y post ρ, ys = pre ++ y :: post → I pre ρ → TG (tg (enc y) ρ) fun ρ1 => SatS (b ρ1) (I (pre ++ [y])) Rt N (I (pre ++ [y])) Xp) (hd : ∀ ρ, I ys ρ → N ρ) : FORW tg b xs ρ N Rt Xp := by
  subst e
  refine for_inv (fun i ρ => I (ys.take i) ρ) h0 (fun i x ρ hx h => ?_) (fun ρ h => by rw [List.length_map, List.take_length] at h; exact hd ρ h)
  rw [List.getElem?_map] at hx
  cases z : ys[i]? with
  | none => rw [z] at hx; cases hx
  | some y =>
    rw [z] at hx
    cases hx
    have hi := (List.getElem?_eq_some_iff.mp z).1
    have e : ys = ys.take i ++ y :: ys.drop (i + 1) := by
      have h2 := (List.getElem?_eq_some_iff.mp z).2
      rw [← h2, ← List.drop_eq_getElem_cons hi, List.take_append_drop]
    have := hs (ys.take i) y (ys.drop (i + 1)) ρ e h
    rw [List.take_add_one, z]
    exact this
theorem w_yes (q : QB true ρ) : SatT (mYes ρ) QB := ⟨_, _, rfl, q⟩
def DLS (kms : List (Key × ME)) (ρ : Env) (Q : List (D × D) → Env → Prop) : Prop := ∃ kds ρ1, mDictL kms ρ = .ok (kds, ρ1) ∧ Q kds ρ1
theorem w_dict {kms : List (Key × ME)} (q : DLS kms ρ fun kds ρ1 => Q (.dict (mergeD [] kds)) ρ1) : Sat (mDict kms ρ) Q := by
  obtain ⟨kds, ρ1, e1, q⟩ := q
  exact ⟨_, ρ1, by unfold mDict; rw [e1]; rfl, q⟩
theorem dl_nil {Q : List (D × D) → Env → Prop} (q : Q [] ρ) : DLS [] ρ Q := ⟨_, _, rfl, q⟩
theorem dl_cons {Q : List (D × D) → Env → Prop} {k : Key} {kms : List (Key × ME)} (q : Sat (m ρ) fun d ρ1 => DLS kms ρ1 fun kds ρ2 => Q ((kD k, d) :: kds) ρ2) : DLS ((k, m) :: kms) ρ Q := by
  obtain ⟨d, ρ1, e1, kds, ρ2, e2, q⟩ := q
  exact ⟨_, ρ2, by unfold mDictL; rw [e1]; dsimp only [Res.nx, Res.bind]; rw [e2], q⟩
/-! errors -/
def SatX (r : Res D) (Q : D → Prop) (X : Str → D → Prop) : Prop := match r with
  | .ok d => Q d
  | .exc c d _ => X c d
  | .stuck => False
theorem satX_ok {r : Res D} {v : D} {Q : D → Prop} {X : Str → D → Prop} (h : r = .ok v) (q : Q v) : SatX r Q X := by rw [h]; exact q
theorem w_callXok {f : MF} (q : SatA (mA ms ρ) fun ds ρ1 => SatP (f ds) fun d => Q d ρ1) : Sat (mCallX f ms ρ) Q := by
  obtain ⟨ds, ρ1, e1, d, e2, q⟩ := q
  exact ⟨d, ρ1, by unfold mCallX; rw [e1]; dsimp only [Res.bind]; rw [e2], q⟩
theorem w_retX {f : MF} (q : SatA (mA ms ρ) fun ds ρ1 => SatX (f ds) (fun d => Rt d ρ1) (fun c d => Xp c d ρ1)) : SatS (mRet (mCallX f ms) ρ) N Rt B C Xp := by
  obtain ⟨ds, ρ1, e1, q⟩ := q
  unfold mRet mCallX
  rw [e1]
  dsimp only [Res.bind]
  cases e : f ds <;> rw [e] at q <;> exact q
theorem w_asgX {f : MF} {tg : MG} (q : SatA (mA ms ρ) fun ds ρ1 => SatX (f ds) (fun d => TG (tg d ρ1) N) (fun c d => Xp c d ρ1)) : SatS (mAsg tg (mCallX f ms) ρ) N Rt B C Xp := by
  obtain ⟨ds, ρ1, e1, q⟩ := q
  unfold mAsg mCallX
  rw [e1]
  dsimp only [Res.bind]
  cases e : f ds with
  | ok d =>
    rw [e] at q
    obtain ⟨ρ2, e2, q⟩ := q
    show SatS (oOut (tg d ρ1) .nx) N Rt B C Xp
    rw [e2]
    exact q
  | exc c d ρ' => rw [e] at q; exact q
  | stuck => rw [e] at q; exact q
theorem w_dropX {f : MF} (q : SatA (mA ms ρ) fun ds ρ1 => SatX (f ds) (fun d => N ρ1) (fun c d => Xp c d ρ1)) : SatS (mDrop (mCallX f ms) ρ) N Rt B C Xp := by
  obtain ⟨ds, ρ1, e1, q⟩ := q
  unfold mDrop mCallX
  rw [e1]
  dsimp only [Res.bind]
  cases e : f ds <;> rw [e] at q <;> exact q
theorem w_raise {c : Str} {names : List Str} (q : SatA (mA ms ρ) fun ds ρ1 => Xp c (.dict ((names.zip ds).reverse.map fun q => (.str q.1, q.2))) ρ1) : SatS (mRaise c names ms ρ) N Rt B C Xp := by
  obtain ⟨ds, ρ1, e1, q⟩ := q
  unfold mRaise
  rw [e1]
  exact q
/-- a try whose suite hands g of the error back -/
theorem w_tryF {c : Str} {i : Nat} {g : D → Option D} {mb : MS} (q : SatS (mb ρ) N Rt B C fun c' d ρ' => (c' = c ∧ i < ρ'.length ∧ notIo ρ' i = true) ∧ ∃ z, g d = some z ∧ Rt z (ρ'.set i .no)) : SatS (mTryF c i g mb ρ) N Rt B C Xp := by
  unfold mTryF
  cases e : mb ρ with
  | exc c' d ρ' =>
    rw [e] at q
    obtain ⟨h, z, ez, q⟩ := q
    show SatS (if c' = c ∧ i < ρ'.length ∧ notIo ρ' i = true then (match g d with | some z => .rt z (ρ'.set i .no) | none => .stuck) else .stuck) N Rt B C Xp
    rw [if_pos h, ez]
    exact q
  | nx ρ' => rw [e] at q; exact q
  | rt d ρ' => rw [e] at q; exact q
  | bk ρ' => rw [e] at q; exact q
  | ct ρ' => rw [e] at q; exact q
  | stuck => rw [e] at q; exact q
/-! whole defs -/
theorem run_P {n : Nat} {f : MS} {ds : List D} {Q : D → Prop} (q : SatS (f (envP n ds)) (fun _ => Q .none) (fun d _ => Q d) (fun _ => False) (fun _ => False) (fun _ _ _ => False)) : SatP (runP n f ds) Q := by
  unfold runP
  cases e : f (envP n ds) <;> rw [e] at q <;> first | exact ⟨_, rfl, q⟩ | exact q.elim
def IO (ρ : Env) (Q : D → Prop) : Prop := ∃ d, LK ρ 0 (.io d) ∧ Q d
theorem run_I {n : Nat} {f : MS} {d0 : D} {ds : List D} {Q : D → D → Prop} (q : SatS (f (envI n d0 ds)) (fun ρ => IO ρ (Q .none)) (fun d ρ => IO ρ (Q d)) (fun _ => False) (fun _ => False) (fun _ _ _ => False)) : SatI (runI n f d0 ds) Q := by
  unfold runI
  cases e : f (envI n d0 ds) <;> rw [e] at q <;> first
    | exact q.elim
    | (obtain ⟨d, l, q⟩ := q
       refine ⟨_, _, rfl, ?_⟩
       unfold ioOf
       rw [show _ = some (Sl.io d) from l]
       exact q)
theorem io_of {Q : D → Prop} {r : Env} (q : Q d) : IO (.io d :: r) Q := ⟨d, rfl, q⟩
theorem run_X {n : Nat} {f : MS} {ds : List D} {Q : D → Prop} {X : Str → D → Prop} (q : SatS (f (envP n ds)) (fun _ => Q .none) (fun d _ => Q d) (fun _ => False) (fun _ => False) (fun c d _ => X c d)) : SatX (runP n f ds) Q X := by
  unfold runP
  cases e : f (envP n ds) <;> rw [e] at q <;> first | exact q | exact q.elim
theorem SatP.eq {r : Res D} {v : D} (h : SatP r fun d => d = v) : r = .ok v := by
  obtain ⟨d, e, rfl⟩ := h
  exact e
theorem satP_of {r : Res D} {v : D} {Q : D → Prop} (h : r = .ok v) (q : Q v) : SatP r Q := ⟨v, h, q⟩
/-! values -/
theorem v_add {a b : Int} {Q : D → Prop} (q : Q (.int (a + b))) : VAL (fAdd (.int a) (.int b)) Q := ⟨_, rfl, q⟩
theorem v_sub {a b : Int} {Q : D → Prop} (q : Q (.int (a - b))) : VAL (fSub (.int a) (.int b)) Q := ⟨_, rfl, q⟩
theorem v_mul {a b : Int} {Q : D → Prop} (h : (-18446744073709551616 < a ∧ a < 18446744073709551616) ∨ (-18446744073709551616 < b ∧ b < 18446744073709551616)) (q : Q (.int (a * b))) : VAL (fMul (.int a) (.int b)) Q := ⟨_, by
  show (if cMul a b = true then _ else _) = _
  rw [if_pos (by unfold cMul; simp only [Bool.or_eq_true, Bool.and_eq_true, decide_eq_true_eq]; exact h)], q⟩
theorem v_mulW {a b : Int} {Q : D → Prop} (h : a.natAbs.log2 + b.natAbs.log2 < 1000000) (q : Q (.int (a * b))) : VAL (fMulW (.int a) (.int b)) Q := ⟨_, by
  show (if decide (a.natAbs.log2 + b.natAbs.log2 < 1000000) = true then _ else _) = _
  rw [if_pos (decide_eq_true h)], q⟩
theorem v_div {a b : Int} {Q : D → Prop} (h : 0 < b ∧ b < 1000000000000000000000000000000000000000000000000000000000000) (q : Q (.int (a / b))) : VAL (fDiv (.int a) (.int b)) Q := ⟨_, by
  show (if (decide (0 < b) && decide (b < 1000000000000000000000000000000000000000000000000000000000000)) = true then _ else _) = _
  rw [if_pos (by rw [decide_eq_true h.1, decide_eq_true h.2]; rfl)], q⟩
theorem v_mod {a b : Int} {Q : D → Prop} (h : 0 < b) (q : Q (.int (a % b))) : VAL (fMod (.int a) (.int b)) Q := ⟨_, by
  show (if decide (0 < b) = true then _ else _) = _
  rw [if_pos (decide_eq_true h)], q⟩
theorem v_pow {a b : Int} {Q : D → Prop} (h : 0 ≤ b ∧ b ≤ 1000000 ∧ a.natAbs < 18446744073709551616) (q : Q (.int (a ^ b.toNat))) : VAL (fPow (.int a) (.int b)) Q := ⟨_, by
  show (if (decide (0 ≤ b) && decide (b ≤ 1000000) && decide (a.natAbs < 18446744073709551616)) = true then _ else _) = _
  rw [if_pos (by rw [decide_eq_true h.1, decide_eq_true h.2.1, decide_eq_true h.2.2]; rfl)], q⟩
theorem v_neg {a : Int} {Q : D → Prop} (q : Q (.int (-a))) : VAL (fNeg (.int a)) Q := ⟨_, rfl, q⟩
theorem v_lt {a b : Int} {Q : D → Prop} (q : Q (.bool (decide (a < b)))) : VAL (fLt (.int a) (.int b)) Q := ⟨_, rfl, q⟩
theorem v_le {a b : Int} {Q : D → Prop} (q : Q (.bool (decide (a ≤ b)))) : VAL (fLe (.int a) (.int b)) Q := ⟨_, rfl, q⟩
theorem v_gt {a b : Int} {Q : D → Prop} (q : Q (.bool (decide (b < a)))) : VAL (fGt (.int a) (.int b)) Q := ⟨_, rfl, q⟩
theorem v_ge {a b : Int} {Q : D → Prop} (q : Q (.bool (decide (b ≤ a)))) : VAL (fGe (.int a) (.int b)) Q := ⟨_, rfl, q⟩
theorem v_eqI {a b : Int} {Q : D → Prop} (q : Q (.bool (decide (a = b)))) : VAL (fEq (.int a) (.int b)) Q := ⟨_, rfl, q⟩
theorem v_eqS {a b : Str} {Q : D → Prop} (q : Q (.bool (decide (a = b)))) : VAL (fEq (.str a) (.str b)) Q := ⟨_, rfl, q⟩
theorem v_eqB {a b : Bool} {Q : D → Prop} (q : Q (.bool (decide (a = b)))) : VAL (fEq (.bool a) (.bool b)) Q := ⟨_, rfl, q⟩
theorem v_neI {a b : Int} {Q : D → Prop} (q : Q (.bool (!decide (a = b)))) : VAL (fNe (.int a) (.int b)) Q := ⟨_, rfl, q⟩
theorem v_neS {a b : Str} {Q : D → Prop} (q : Q (.bool (!decide (a = b)))) : VAL (fNe (.str a) (.str b)) Q := ⟨_, rfl, q⟩
theorem v_neB {a b : Bool} {Q : D → Prop} (q : Q (.bool (!decide (a = b)))) : VAL (fNe (.bool a) (.bool b)) Q := ⟨_, rfl, q⟩
theorem v_eqNI {a : Int} {Q : D → Prop} (q : Q (.bool false)) : VAL (fEq (.int a) .none) Q := ⟨_, rfl, q⟩
theorem v_neNI {a : Int} {Q : D → Prop} (q : Q (.bool true)) : VAL (fNe (.int a) .none) Q := ⟨_, rfl, q⟩
theorem v_isN {Q : D → Prop} (q : Q (.bool (isNon d))) : VAL (fIsN d .none) Q := ⟨_, by cases d <;> rfl, q⟩
theorem v_notN {Q : D → Prop} (q : Q (.bool (!isNon d))) : VAL (fNotN d .none) Q := ⟨_, by cases d <;> rfl, q⟩
theorem v_eqD {Q : D → Prop} (h1 : okD d = true) (h2 : okD e = true) (q : Q (.bool (PyData.eqv d e))) : VAL (fEqD d e) Q := ⟨_, by unfold fEqD; rw [h1, h2]; rfl, q⟩
theorem v_neD {Q : D → Prop} (h1 : okD d = true) (h2 : okD e = true) (q : Q (.bool (!PyData.eqv d e))) : VAL (fNeD d e) Q := ⟨_, by unfold fNeD; rw [h1, h2]; rfl, q⟩
theorem v_ixL {ds : List D} {i : Int} {Q : D → Prop} (h : atI ds i = some d) (q : Q d) : VAL (fIxL (.list ds) (.int i)) Q := ⟨d, h, q⟩
theorem v_ixT {ds : List D} {i : Int} {Q : D → Prop} (h : atI ds i = some d) (q : Q d) : VAL (fIxT (.tuple ds) (.int i)) Q := ⟨d, h, q⟩
theorem v_lenL {ds : List D} {Q : D → Prop} (q : Q (.int ds.length)) : VAL (cbLen [.list ds]) Q := ⟨_, rfl, q⟩
theorem v_lenT {ds : List D} {Q : D → Prop} (q : Q (.int ds.length)) : VAL (cbLen [.tuple ds]) Q := ⟨_, rfl, q⟩
theorem v_abs {a : Int} {Q : D → Prop} (q : Q (.int (if a < 0 then -a else a))) : VAL (cbAbs [.int a]) Q := ⟨_, rfl, q⟩
theorem v_int {a : Int} {Q : D → Prop} (q : Q (.int a)) : VAL (cbInt [.int a]) Q := ⟨_, rfl, q⟩
theorem v_intB {a : Bool} {Q : D → Prop} (q : Q (.int (if a then 1 else 0))) : VAL (cbInt [.bool a]) Q := ⟨_, rfl, q⟩
theorem v_min2 {a b : Int} {Q : D → Prop} (q : Q (.int (if b < a then b else a))) : VAL (cbMin2 [.int a, .int b]) Q := ⟨_, rfl, q⟩
theorem v_max2 {a b : Int} {Q : D → Prop} (q : Q (.int (if b > a then b else a))) : VAL (cbMax2 [.int a, .int b]) Q := ⟨_, rfl, q⟩
theorem v_tupL {ds : List D} {Q : D → Prop} (q : Q (.tuple ds)) : VAL (cbTup [.list ds]) Q := ⟨_, rfl, q⟩
theorem v_tupT {ds : List D} {Q : D → Prop} (q : Q (.tuple ds)) : VAL (cbTup [.tuple ds]) Q := ⟨_, rfl, q⟩
theorem v_lstL {ds : List D} {Q : D → Prop} (q : Q (.list ds)) : VAL (cbList [.list ds]) Q := ⟨_, rfl, q⟩
theorem v_lstT {ds : List D} {Q : D → Prop} (q : Q (.list ds)) : VAL (cbList [.tuple ds]) Q := ⟨_, rfl, q⟩
theorem v_divmod {a b : Int} {Q : D → Prop} (h : 0 < b ∧ b < 1073741824) (q : Q (.tuple [.int (a / b), .int (a % b)])) : VAL (cbDivmod [.int a, .int b]) Q := ⟨_, by
  show (if (decide (0 < b) && decide (b < 1073741824)) = true then _ else _) = _
  rw [if_pos (by rw [decide_eq_true h.1, decide_eq_true h.2]; rfl)], q⟩
theorem v_catL {a b : List D} {Q : D → Prop} (h : a.length + b.length ≤ 16777216) (q : Q (.list (a ++ b))) : VAL (fCatL (.list a) (.list b)) Q := ⟨_, by
  show (if a.length + b.length ≤ 16777216 then _ else _) = _
  rw [if_pos h], q⟩
theorem v_catT {a b : List D} {Q : D → Prop} (h : a.length + b.length ≤ 16777216) (q : Q (.tuple (a ++ b))) : VAL (fCatT (.tuple a) (.tuple b)) Q := ⟨_, by
  show (if a.length + b.length ≤ 16777216 then _ else _) = _
  rw [if_pos h], q⟩
theorem v_slT {ds : List D} {lo hi : Option Int} {Q : D → Prop} (q : Q (.tuple (cutD ds lo hi))) : VAL (fSlT (.tuple ds) lo hi) Q := ⟨_, rfl, q⟩
theorem v_slL {ds : List D} {lo hi : Option Int} {Q : D → Prop} (q : Q (.list (cutD ds lo hi))) : VAL (fSlL (.list ds) lo hi) Q := ⟨_, rfl, q⟩
theorem v_sum {ns : List Int} {Q : D → Prop} (q : Q (.int ns.sum)) : VAL (cbSum [.list (ns.map .int)]) Q := ⟨_, by show (intsD (ns.map .int)).map _ = _; rw [intsD_map]; rfl, q⟩
theorem v_any {bs : List Bool} {Q : D → Prop} (q : Q (.bool (bs.any id))) : VAL (cbAny [.list (bs.map .bool)]) Q := ⟨_, by show (boolsD (bs.map .bool)).map _ = _; rw [boolsD_map]; rfl, q⟩
theorem v_all {bs : List Bool} {Q : D → Prop} (q : Q (.bool (bs.all id))) : VAL (cbAll [.list (bs.map .bool)]) Q := ⟨_, by show (boolsD (bs.map .bool)).map _ = _; rw [boolsD_map]; rfl, q⟩
theorem v_sorted {ns : List Int} {Q : D → Prop} (h : ns.length < 64) (q : Q (.list ((sortI ns).map .int))) : VAL (cbSorted [.list (ns.map .int)]) Q := ⟨_, by
  show (intsD (ns.map .int)).bind _ = _
  rw [intsD_map]
  show (if ns.length < 64 then _ else _) = _
  rw [if_pos h], q⟩
theorem if_t {A B : Prop} (q : A) : IFV true A B := by unfold IFV; rw [if_pos rfl]; exact q
theorem if_f {A B : Prop} (q : B) : IFV false A B := by unfold IFV; rw [if_neg Bool.false_ne_true]; exact q
theorem if_nt {A B : Prop} (q : B) : IFV (!true) A B := if_f q
theorem if_nf {A B : Prop} (q : A) : IFV (!false) A B := if_t q
theorem if_p {c A B : Prop} [Decidable c] (h : c) (q : A) : IFV (decide c) A B := by rw [decide_eq_true h]; exact if_t q
theorem if_m {c A B : Prop} [Decidable c] (h : ¬ c) (q : B) : IFV (decide c) A B := by rw [decide_eq_false h]; exact if_f q
theorem if_np {c A B : Prop} [Decidable c] (h : c) (q : B) : IFV (!decide c) A B := by rw [decide_eq_true h]; exact if_f q
theorem if_nm {c A B : Prop} [Decidable c] (h : ¬ c) (q : A) : IFV (!decide c) A B := by rw [decide_eq_false h]; exact if_t q
theorem if_n1 {A B : Prop} (q : A) : IFV (isNon .none) A B := if_t q
theorem if_n2 {A B : Prop} {i : Int} (q : B) : IFV (isNon (.int i)) A B := if_f q
theorem if_n3 {A B : Prop} (q : B) : IFV (!isNon .none) A B := if_f q
theorem if_n4 {A B : Prop} {i : Int} (q : A) : IFV (!isNon (.int i)) A B := if_t q
theorem if_n5 {A B : Prop} {i : List D} (q : B) : IFV (isNon (.tuple i)) A B := if_f q
theorem if_n6 {A B : Prop} {i : List D} (q : A) : IFV (!isNon (.tuple i)) A B := if_t q
theorem if_split {b : Bool} {A B : Prop} (h1 : b = true → A) (h2 : b = false → B) : IFV b A B := by
  cases b with
  | true => exact if_t (h1 rfl)
  | false => exact if_f (h2 rfl)
theorem if_c {c A B : Prop} [Decidable c] (h1 : c → A) (h2 : ¬ c → B) : IFV (decide c) A B := by
  by_cases h : c
  · exact if_p h (h1 h)
  · exact if_m h (h2 h)
theorem if_nc {c A B : Prop} [Decidable c] (h1 : c → B) (h2 : ¬ c → A) : IFV (!decide c) A B := by
  by_cases h : c
  · exact if_np h (h1 h)
  · exact if_nm h (h2 h)
end
end Mi

set_option Elab.async false
set_option linter.all false
set_option maxRecDepth 100000
namespace Mi
open PySem hiding Env ret
open PySem.Spec PyProof.Rows L2
/-! what every law's own script reader comes to -/
def ISI (n : String) (d : D) (N : Bool → Prop) : Prop := ∃ b, isiD n d = some b ∧ N b
def m__law_start : MS :=
  (mRet (mDict [(.inr "cells", (mLc (itL (mVar 0)) (gN 1) mYes (mCB cbAbs [(mCB cbInt [(mVar 1)])]) [1])), (.inr "at", (mC (.int (0)))), (.inr "left", (mC (.int (0)))), (.inr "mix", (mOp fAdd (mC (.int (7))) (mCB cbLen [(mVar 0)])))]))
def m__law_draw : MS :=
  (mSeq (mIfS (mAndT (mB (mOp fEq (mGetV 0 (mC (.str "left"))) (mC (.int (0))))) (mB (mOp fLt (mGetV 0 (mC (.str "at"))) (mCB cbLen [(mGetV 0 (mC (.str "cells")))])))) (mSeq (mSet 2 (mOp fIxL (mGetV 0 (mC (.str "cells"))) (mGetV 0 (mC (.str "at")))))
  (mSeq (mPutO 0 (mC (.str "at")) (mOp fAdd (mGetV 0 (mC (.str "at"))) (mC (.int (1)))))
  (mSeq (mPutO 0 (mC (.str "mix")) (mOp fMod (mCB cbInt [(mOp fAdd (mOp fAdd (mOp fMul (mGetV 0 (mC (.str "mix"))) (mC (.int (48271)))) (mVar 2)) (mC (.int (11))))]) (mC (.int (2147483647)))))
  (mSeq (mIfS (mB (mOp fLt (mVar 2) (mOp fPow (mC (.int (10))) (mC (.int (18)))))) (mRet (mOp fMod (mCB cbInt [(mVar 2)]) (mVar 1))) mNext)
  (mPutO 0 (mC (.str "left")) (mVar 2)))))) mNext)
  (mSeq (mIfS (mB (mOp fGt (mGetV 0 (mC (.str "left"))) (mC (.int (0))))) (mSeq (mSet 3 (mOp fMod (mCB cbInt [(mGetV 0 (mC (.str "left")))]) (mVar 1)))
  (mSeq (mPutO 0 (mC (.str "left")) (mOp fDiv (mGetV 0 (mC (.str "left"))) (mVar 1)))
  (mRet (mVar 3)))) mNext)
  (mSeq (mPutO 0 (mC (.str "mix")) (mOp fMod (mCB cbInt [(mOp fAdd (mOp fMul (mGetV 0 (mC (.str "mix"))) (mC (.int (48271)))) (mC (.int (11))))]) (mC (.int (2147483647)))))
  (mRet (mOp fMod (mCB cbInt [(mOp fMod (mCB cbInt [(mOp fAdd (mOp fMul (mGetV 0 (mC (.str "mix"))) (mC (.int (69621)))) (mC (.int (5))))]) (mC (.int (2147483629))))]) (mVar 1))))))
def m__law_pick : MS :=
  (mRet (mOp fIxL (mVar 1) (mCallI (runI 4 m__law_draw) 0 [(mCB cbLen [(mVar 1)])])))
def m__law_is_number : MS :=
  (mRet (mAndV (mIsi "int" (mVar 0)) (mNotV (mIsi "bool" (mVar 0)))))
def m__law_is : MS :=
  (mRet (mAndV (mIsi "bool" (mVar 0)) (mOp fEq (mVar 0) (mVar 1))))
/-! the walk over mirrors -/
local macro_rules | `(tactic| walk_at "lk") => `(tactic| first | exact Mi.lk0 | exact Mi.lk1 | exact Mi.lk2 | exact Mi.lk3 | exact Mi.lk4 | exact Mi.lk5 | exact Mi.lk6 | exact Mi.lk7 | exact Mi.lk8 | exact Mi.lk9 | exact Mi.lk10 | exact Mi.lk11 | exact Mi.lk12 | exact Mi.lk13 | exact Mi.lk14 | exact Mi.lk15 | exact Mi.lk16 | exact Mi.lk17 | exact Mi.lk18 | exact Mi.lk19 | exact Mi.lk20 | exact Mi.lk21 | exact Mi.lk22 | exact Mi.lk23 | exact Mi.lk24 | exact Mi.lk25 | exact Mi.lk26 | exact Mi.lk27 | exact Mi.lk28 | exact Mi.lk29 | exact Mi.lk30 | exact Mi.lk31 | exact Mi.lk32 | exact Mi.lk33 | exact Mi.lk34 | exact Mi.lk35 | exact Mi.lk36 | exact Mi.lk37 | exact Mi.lk38 | exact Mi.lk39)
local macro_rules | `(tactic| walk_at "st") => `(tactic| first | with_reducible refine Mi.st0 ?_ | with_reducible refine Mi.st1 ?_ | with_reducible refine Mi.st2 ?_ | with_reducible refine Mi.st3 ?_ | with_reducible refine Mi.st4 ?_ | with_reducible refine Mi.st5 ?_ | with_reducible refine Mi.st6 ?_ | with_reducible refine Mi.st7 ?_ | with_reducible refine Mi.st8 ?_ | with_reducible refine Mi.st9 ?_ | with_reducible refine Mi.st10 ?_ | with_reducible refine Mi.st11 ?_ | with_reducible refine Mi.st12 ?_ | with_reducible refine Mi.st13 ?_ | with_reducible refine Mi.st14 ?_ | with_reducible refine Mi.st15 ?_ | with_reducible refine Mi.st16 ?_ | with_reducible refine Mi.st17 ?_ | with_reducible refine Mi.st18 ?_ | with_reducible refine Mi.st19 ?_ | with_reducible refine Mi.st20 ?_ | with_reducible refine Mi.st21 ?_ | with_reducible refine Mi.st22 ?_ | with_reducible refine Mi.st23 ?_ | with_reducible refine Mi.st24 ?_ | with_reducible refine Mi.st25 ?_ | with_reducible refine Mi.st26 ?_ | with_reducible refine Mi.st27 ?_ | with_reducible refine Mi.st28 ?_ | with_reducible refine Mi.st29 ?_ | with_reducible refine Mi.st30 ?_ | with_reducible refine Mi.st31 ?_ | with_reducible refine Mi.st32 ?_ | with_reducible refine Mi.st33 ?_ | with_reducible refine Mi.st34 ?_ | with_reducible refine Mi.st35 ?_ | with_reducible refine Mi.st36 ?_ | with_reducible refine Mi.st37 ?_ | with_reducible refine Mi.st38 ?_ | with_reducible refine Mi.st39 ?_)
local macro_rules | `(tactic| walk_at "at") => `(tactic| first | with_reducible assumption | exact Rd.at0 | exact Rd.at1 | exact Rd.at2 | exact Rd.at3 | exact Rd.at4)
local macro_rules | `(tactic| walk_at "side") => `(tactic| first | with_reducible assumption | omega | (constructor <;> omega) | (refine Or.inl ⟨?_, ?_⟩ <;> omega) | (refine Or.inr ⟨?_, ?_⟩ <;> omega) | (simp only [List.length_cons, List.length_nil, List.length_append, List.length_map]; omega) | ((refine ⟨⟨?_, ?_⟩, ?_, ?_⟩) <;> omega))
local macro_rules | `(tactic| walk_at "fn") => `(tactic| fail)
local macro_rules | `(tactic| walk_at "w1") => `(tactic| first
  | ((with_reducible show Mi.SatS _ _ _ _ _ _); (first | with_reducible refine Mi.w_seq ?_ | with_reducible refine Mi.w_retX ?_ | with_reducible refine Mi.w_asgX ?_ | with_reducible refine Mi.w_dropX ?_ | with_reducible refine Mi.w_raise ?_ | with_reducible refine Mi.w_asg ?_ | with_reducible refine Mi.w_ifS ?_ | with_reducible refine Mi.w_drop ?_ | with_reducible refine Mi.w_ret ?_ | with_reducible refine Mi.w_next ?_ | with_reducible refine Mi.w_for ?_ | with_reducible refine Mi.w_retN ?_ | with_reducible refine Mi.w_brk ?_ | with_reducible refine Mi.w_cnt ?_ | with_reducible refine Mi.w_while ?_ | with_reducible refine Mi.w_setO ?_))
  | ((with_reducible show Mi.Sat _ _); (first | ((with_reducible apply Mi.w_val); (walk_at "lk")) | with_reducible refine Mi.w_c ?_ | with_reducible refine Mi.w_op ?_ | with_reducible refine Mi.w_call ?_ | with_reducible refine Mi.w_callI ?_ | with_reducible refine Mi.w_tup ?_ | with_reducible refine Mi.w_getV ?_ | with_reducible refine Mi.w_ixV ?_ | ((with_reducible apply Mi.w_pkv); (walk_at "lk")) | with_reducible refine Mi.w_peek ?_ | with_reducible refine Mi.w_cb ?_ | with_reducible refine Mi.w_lst ?_ | with_reducible refine Mi.w_un ?_ | ((with_reducible apply Mi.w_ownA); (walk_at "lk"); (exact rfl)) | with_reducible refine Mi.w_andV ?_ | with_reducible refine Mi.w_orV ?_ | with_reducible refine Mi.w_notV ?_ | with_reducible refine Mi.w_if ?_ | with_reducible refine Mi.w_chain ?_ | with_reducible refine Mi.w_sl ?_ | with_reducible refine Mi.w_get ?_ | with_reducible refine Mi.w_d0 ?_ | with_reducible refine Mi.w_dict ?_ | with_reducible refine Mi.w_tupS ?_ | with_reducible refine Mi.w_app ?_ | with_reducible refine Mi.w_lcw ?_ | with_reducible refine Mi.w_js1 ?_ | with_reducible refine Mi.w_js0 ?_ | ((with_reducible apply Mi.w_lenO); (walk_at "lk")) | ((with_reducible apply Mi.w_lenv); (walk_at "lk"))))
  | ((with_reducible show Mi.SatT _ _); (first | with_reducible refine Mi.w_B ?_ | with_reducible refine Mi.w_andT ?_ | with_reducible refine Mi.w_orT ?_ | with_reducible refine Mi.w_notT ?_ | with_reducible refine Mi.w_yes ?_))
  | ((with_reducible show Mi.SatA _ _); (first | with_reducible refine Mi.w_nil ?_ | with_reducible refine Mi.w_cons ?_ | with_reducible refine Mi.w_snil ?_ | with_reducible refine Mi.w_sone ?_ | with_reducible refine Mi.w_sstar ?_ | with_reducible refine Mi.w_r1 ?_ | with_reducible refine Mi.w_r2 ?_ | with_reducible refine Mi.w_itL1 ?_ | with_reducible refine Mi.w_itT1 ?_))
  | ((with_reducible show Mi.VAL _ _); (first | with_reducible apply Mi.v_add | with_reducible apply Mi.v_sub | with_reducible apply Mi.v_eqI | with_reducible apply Mi.v_lt | with_reducible apply Mi.v_le | with_reducible apply Mi.v_gt | with_reducible apply Mi.v_ge | with_reducible apply Mi.v_neI | ((with_reducible apply Mi.v_ixL); (walk_at "at")) | ((with_reducible apply Mi.v_ixT); (walk_at "at")) | ((with_reducible apply Mi.v_mul); (walk_at "side")) | ((with_reducible apply Mi.v_div); (walk_at "side")) | ((with_reducible apply Mi.v_mod); (walk_at "side")) | with_reducible apply Mi.v_neg | with_reducible apply Mi.v_eqS | with_reducible apply Mi.v_eqB | with_reducible apply Mi.v_neS | with_reducible apply Mi.v_neB | with_reducible apply Mi.v_eqNI | with_reducible apply Mi.v_neNI | with_reducible apply Mi.v_isN | with_reducible apply Mi.v_notN | with_reducible apply Mi.v_lenL | with_reducible apply Mi.v_lenT | with_reducible apply Mi.v_abs | with_reducible apply Mi.v_int | with_reducible apply Mi.v_intB | with_reducible apply Mi.v_min2 | with_reducible apply Mi.v_max2 | with_reducible apply Mi.v_tupL | with_reducible apply Mi.v_tupT | with_reducible apply Mi.v_lstL | with_reducible apply Mi.v_lstT | with_reducible apply Mi.v_slT | with_reducible apply Mi.v_slL | ((with_reducible apply Mi.v_pow); (decide)) | ((with_reducible apply Mi.v_catL); (walk_at "side")) | ((with_reducible apply Mi.v_catT); (walk_at "side")) | ((with_reducible apply Mi.v_divmod); (walk_at "side")) | ((with_reducible apply Mi.v_fmt2); (walk_at "side")) | walk_at "fn"))
  | ((with_reducible show Mi.IFV _ _ _); (first | with_reducible refine Mi.if_t ?_ | with_reducible refine Mi.if_f ?_ | with_reducible refine Mi.if_nt ?_ | with_reducible refine Mi.if_nf ?_ | with_reducible refine Mi.if_n1 ?_ | with_reducible refine Mi.if_n2 ?_ | with_reducible refine Mi.if_n3 ?_ | with_reducible refine Mi.if_n4 ?_ | with_reducible refine Mi.if_n5 ?_ | with_reducible refine Mi.if_n6 ?_))
  | ((with_reducible show Mi.SETS _ _); (first | walk_at "st" | (with_reducible refine Mi.put_own (by walk_at "lk") ?_) | (with_reducible refine Mi.put_io (by walk_at "lk") ?_)))
  | ((with_reducible show Mi.TG _ _); (first | ((with_reducible apply Mi.tg_n); (exact rfl)) | ((with_reducible apply Mi.tg_t); (exact rfl))))
  | ((with_reducible show Mi.TGS _ _); (first | with_reducible refine Mi.tgs_cons ?_ | with_reducible refine Mi.tgs_nil ?_))
  | ((with_reducible show Mi.LCB _ _ _); (with_reducible apply Mi.lcb); (exact rfl))
  | ((with_reducible show Mi.WIPE _ _); (first | with_reducible refine Mi.wp1 ?_ | with_reducible refine Mi.wp2 ?_ | ((with_reducible refine Mi.rs1 ?_ ?_); (walk_at "lk")) | ((with_reducible refine Mi.rs1v (d := ?_) ?_ ?_); (walk_at "lk")) | ((with_reducible refine Mi.rs2 ?_ ?_ ?_); (walk_at "lk"); (walk_at "lk"))))
  | ((with_reducible show Mi.SETO _ _ _ _); (with_reducible apply Mi.seto); (exact rfl))
  | with_reducible refine Mi.isl ?_
  | ((with_reducible show Mi.APP _ _ _ _ _); (with_reducible apply Mi.app_); (walk_at "side"))
  | ((with_reducible show Mi.LEQ _ _); (with_reducible apply Mi.leq); (walk_at "side"))
  | with_reducible refine Mi.isls ?_
  | with_reducible refine Mi.ists ?_
  | ((with_reducible show Mi.R1 _ _); (with_reducible apply Mi.r1_); (walk_at "side"))
  | ((with_reducible show Mi.R2 _ _); (with_reducible apply Mi.r2_); (walk_at "side"))
  | with_reducible refine Mi.prt ?_
  | with_reducible refine Mi.w_part ?_
  | with_reducible refine Mi.bl_ ?_
  | ((with_reducible show Mi.MU _ _); (with_reducible apply Mi.mu_own); (walk_at "lk"))
  | ((with_reducible show Mi.MU _ _); (with_reducible apply Mi.mu_io); (walk_at "lk"))
  | with_reducible refine Mi.dl_cons ?_
  | with_reducible refine Mi.dl_nil ?_
  | with_reducible refine Mi.w_none ?_
  | with_reducible refine Mi.io_of ?_
  | with_reducible refine Mi.w_itT ?_
  | with_reducible refine Mi.w_itL ?_
  | walk_at "fn")
local macro_rules | `(tactic| walk_at "w") => `(tactic| repeat (walk_at "w1"))
local macro_rules | `(tactic| walk_at "wd") => `(tactic| first
  | ((with_reducible refine Mi.if_p ?_ ?_); (first | with_reducible assumption | exact rfl | decide | omega))
  | ((with_reducible refine Mi.if_m ?_ ?_); (first | with_reducible assumption | exact rfl | decide | omega))
  | ((with_reducible refine Mi.if_np ?_ ?_); (first | with_reducible assumption | exact rfl | decide | omega))
  | ((with_reducible refine Mi.if_nm ?_ ?_); (first | with_reducible assumption | exact rfl | decide | omega)))
local macro_rules | `(tactic| walk_at "mo") => `(tactic| (walk_at "w"; (repeat (walk_at "wd"; walk_at "w"))))
local macro_rules | `(tactic| walk_at "env") => `(tactic| simp only [envP, envI, List.map_cons, List.map_nil, List.length_cons, List.length_nil, List.replicate, List.cons_append, List.nil_append, Nat.reduceAdd, Nat.reduceSub])

/-! the draws -/
def tape (cs : List Int) (a l m : Int) : D := .dict [(.str "cells", .list (cs.map .int)), (.str "at", .int a), (.str "left", .int l), (.str "mix", .int m)]
def TapeOk (T : D) : Prop := ∃ (cs : List Int) (a l m : Int), T = tape cs a l m ∧ 0 ≤ a ∧ 0 ≤ l ∧ 0 ≤ m ∧ m < 2147483648 ∧ ∀ x ∈ cs, 0 ≤ x
theorem t_left {cs : List Int} {a l m : Int} {Q : D → Prop} (q : Q (.int l)) : VAL (fGetD (tape cs a l m) (.str "left")) Q := ⟨_, by rfl, q⟩
theorem t_at {cs : List Int} {a l m : Int} {Q : D → Prop} (q : Q (.int a)) : VAL (fGetD (tape cs a l m) (.str "at")) Q := ⟨_, by rfl, q⟩
theorem t_mix {cs : List Int} {a l m : Int} {Q : D → Prop} (q : Q (.int m)) : VAL (fGetD (tape cs a l m) (.str "mix")) Q := ⟨_, by rfl, q⟩
theorem t_cells {cs : List Int} {a l m : Int} {Q : D → Prop} (q : Q (.list (cs.map .int))) : VAL (fGetD (tape cs a l m) (.str "cells")) Q := ⟨_, by rfl, q⟩
theorem p_at {mk mv : ME} {cs : List Int} {a l m : Int} {r : Env} {N : Env → Prop} {Rt : D → Env → Prop} {B C : Env → Prop} {Xp : Str → D → Env → Prop} {v : Int}
    (q1 : Sat (mv (.io (tape cs a l m) :: r)) fun d ρ => d = .int v ∧ ρ = .io (tape cs a l m) :: r) (q : N (.io (tape cs v l m) :: r)) : SatS (mPutO 0 (mC (.str "at")) mv (.io (tape cs a l m) :: r)) N Rt B C Xp := by
  obtain ⟨d, ρ, e, rfl, rfl⟩ := q1
  exact w_putO ⟨_, _, e, _, rfl, _, _, rfl, _, rfl, _, .inr "at", rfl, rfl, (by show 4 < 16777216; decide), q⟩
theorem p_left {mk mv : ME} {cs : List Int} {a l m : Int} {r : Env} {N : Env → Prop} {Rt : D → Env → Prop} {B C : Env → Prop} {Xp : Str → D → Env → Prop} {v : Int}
    (q1 : Sat (mv (.io (tape cs a l m) :: r)) fun d ρ => d = .int v ∧ ρ = .io (tape cs a l m) :: r) (q : N (.io (tape cs a v m) :: r)) : SatS (mPutO 0 (mC (.str "left")) mv (.io (tape cs a l m) :: r)) N Rt B C Xp := by
  obtain ⟨d, ρ, e, rfl, rfl⟩ := q1
  exact w_putO ⟨_, _, e, _, rfl, _, _, rfl, _, rfl, _, .inr "left", rfl, rfl, (by show 4 < 16777216; decide), q⟩
theorem p_mix {mk mv : ME} {cs : List Int} {a l m : Int} {r : Env} {N : Env → Prop} {Rt : D → Env → Prop} {B C : Env → Prop} {Xp : Str → D → Env → Prop} {v : Int}
    (q1 : Sat (mv (.io (tape cs a l m) :: r)) fun d ρ => d = .int v ∧ ρ = .io (tape cs a l m) :: r) (q : N (.io (tape cs a l v) :: r)) : SatS (mPutO 0 (mC (.str "mix")) mv (.io (tape cs a l m) :: r)) N Rt B C Xp := by
  obtain ⟨d, ρ, e, rfl, rfl⟩ := q1
  exact w_putO ⟨_, _, e, _, rfl, _, _, rfl, _, rfl, _, .inr "mix", rfl, rfl, (by show 4 < 16777216; decide), q⟩
local macro_rules | `(tactic| walk_at "fn") => `(tactic| first | with_reducible apply t_left | with_reducible apply t_at | with_reducible apply t_mix | with_reducible apply t_cells)
set_option maxHeartbeats 4000000 in
theorem draw_ok {T : D} {b : Int} {Q : D → D → Prop} (h : TapeOk T) (h0 : 0 < b) (h1 : b < 1000000000000000000000000000000000000000000000000000000000000) (q : ∀ n T', 0 ≤ n → n < b → TapeOk T' → Q (.int n) T') : SatI (runI 4 m__law_draw T [.int b]) Q := by
  obtain ⟨cs, a, l, m, rfl, ha, hl, hm0, hm1, hcs⟩ := h
  refine run_I ?_
  walk_at "env"
  unfold m__law_draw
  have mx : ∀ x : Int, 0 ≤ x % 2147483647 ∧ x % 2147483647 < 2147483648 := fun x => ⟨Int.emod_nonneg _ (by decide), by have := Int.emod_lt_of_pos x (show (0 : Int) < 2147483647 by decide); omega⟩
  have fin : ∀ n cs a l m, 0 ≤ a → 0 ≤ l → 0 ≤ m → m < 2147483648 → (∀ x ∈ cs, 0 ≤ x) → Q (.int (n % b)) (tape cs a l m) := fun n cs a l m h2 h3 h4 h5 h6 => q _ _ (Int.emod_nonneg _ (by omega)) (Int.emod_lt_of_pos _ h0) ⟨cs, a, l, m, rfl, h2, h3, h4, h5, h6⟩
  by_cases l0 : l = 0
  · subst l0
    by_cases hin : a < ((cs.map PyData.int).length : Int)
    · obtain ⟨z, hz, hz0⟩ : ∃ z, atI (cs.map PyData.int) a = some (.int z) ∧ 0 ≤ z := by
        have e : ((a.toNat : Nat) : Int) = a := by omega
        have hlt : a.toNat < cs.length := by rw [List.length_map] at hin; omega
        have h2 : atI (cs.map PyData.int) ((a.toNat : Nat) : Int) = some (.int cs[a.toNat]) := atI_nat (by rw [List.getElem?_map, List.getElem?_eq_getElem hlt]; rfl)
        rw [e] at h2
        exact ⟨cs[a.toNat], h2, hcs _ (List.getElem_mem hlt)⟩
      by_cases hb : z < 1000000000000000000
      · walk_at "mo"
        refine p_at (mk := mC .none) (v := a + 1) (by walk_at "mo"; exact ⟨rfl, rfl⟩) ?_
        walk_at "mo"
        refine p_mix (mk := mC .none) (v := (m * 48271 + z + 11) % 2147483647) (by walk_at "mo"; exact ⟨rfl, rfl⟩) ?_
        walk_at "mo"
        rw [show (10 : Int) ^ Int.toNat 18 = 1000000000000000000 by decide]
        walk_at "mo"
        exact fin _ _ _ _ _ (by omega) (by omega) (mx _).1 (mx _).2 hcs
      · walk_at "mo"
        refine p_at (mk := mC .none) (v := a + 1) (by walk_at "mo"; exact ⟨rfl, rfl⟩) ?_
        walk_at "mo"
        refine p_mix (mk := mC .none) (v := (m * 48271 + z + 11) % 2147483647) (by walk_at "mo"; exact ⟨rfl, rfl⟩) ?_
        walk_at "mo"
        rw [show (10 : Int) ^ Int.toNat 18 = 1000000000000000000 by decide]
        walk_at "mo"
        refine p_left (mk := mC .none) (v := z) (by walk_at "mo"; exact ⟨rfl, rfl⟩) ?_
        walk_at "mo"
        refine p_left (mk := mC .none) (v := z / b) (by walk_at "mo"; exact ⟨rfl, rfl⟩) ?_
        walk_at "mo"
        exact fin _ _ _ _ _ (by omega) (Int.ediv_nonneg hz0 (by omega)) (mx _).1 (mx _).2 hcs
    · walk_at "mo"
      refine p_mix (mk := mC .none) (v := (m * 48271 + 11) % 2147483647) (by walk_at "mo"; exact ⟨rfl, rfl⟩) ?_
      walk_at "mo"
      exact fin _ _ _ _ _ ha (by omega) (mx _).1 (mx _).2 hcs
  · walk_at "mo"
    refine p_left (mk := mC .none) (v := l / b) (by walk_at "mo"; exact ⟨rfl, rfl⟩) ?_
    walk_at "mo"
    exact fin _ _ _ _ _ ha (Int.ediv_nonneg hl (by omega)) hm0 hm1 hcs

theorem draw_go {T : D} {b : Int} {Q : D → D → Prop} (h : TapeOk T) (h0 : 0 < b) (h1 : b < 1000000000000000000000000000000000000000000000000000000000000) (q : ∀ n T', 0 ≤ n → n < b → TapeOk T' → Q (.int n) T') : SatI (runI 4 m__law_draw T [.int b]) Q := draw_ok h h0 h1 q
theorem pick_go {T : D} {ds : List D} {Q : D → D → Prop} (h : TapeOk T) (h0 : 0 < ds.length) (h1 : ds.length < 1000000) (q : ∀ d T', d ∈ ds → TapeOk T' → Q d T') : SatI (runI 2 m__law_pick T [.list ds]) Q := by
  refine run_I ?_
  walk_at "env"
  unfold m__law_pick
  walk_at "mo"
  refine draw_ok h (by omega) (by omega) fun n T' n0 n1 h' => ?_
  have hlt : n.toNat < ds.length := by omega
  have hz : atI ds n = some ds[n.toNat] := by
    have e : ((n.toNat : Nat) : Int) = n := by omega
    have h2 : atI ds ((n.toNat : Nat) : Int) = some ds[n.toNat] := atI_nat (List.getElem?_eq_getElem hlt)
    rw [e] at h2
    exact h2
  walk_at "mo"
  exact q _ _ (List.getElem_mem hlt) h'
/-- a pick of ints -/
theorem pickI_go {T : D} {ds : List D} {Q : D → D → Prop} (ks : List Int) (lo hi : Int) (h : TapeOk T) (e : ds = ks.map .int) (h0 : 0 < ks.length) (h1 : ks.length < 1000000) (hb : ∀ k ∈ ks, lo ≤ k ∧ k ≤ hi) (q : ∀ k T', k ∈ ks → lo ≤ k → k ≤ hi → TapeOk T' → Q (.int k) T') : SatI (runI 2 m__law_pick T [.list ds]) Q := by
  subst e
  refine pick_go h (by rw [List.length_map]; exact h0) (by rw [List.length_map]; exact h1) fun d T' hd h' => ?_
  obtain ⟨k, hk, rfl⟩ := List.mem_map.mp hd
  exact q k T' hk (hb k hk).1 (hb k hk).2 h'
theorem start_go {ns : List Int} {Q : D → Prop} (hl : ns.length ≤ 63) (q : ∀ T, TapeOk T → Q T) : SatP (runP 2 m__law_start [scr ns]) Q := by
  refine run_P ?_
  walk_at "env"
  unfold m__law_start
  refine w_ret ?_
  refine w_dict ?_
  refine dl_cons ?_
  refine w_lcw ?_
  refine w_itScr (lk0) ?_
  walk_at "mo"
  refine lc_mt ns .int (fun z => .int (if z < 0 then -z else z)) rfl (by omega) (fun y _ => ?_) ?_
  · walk_at "mo"
    refine ⟨rfl, ?_⟩
    walk_at "mo"
    rfl
  · walk_at "mo"
    refine ⟨.int (ns.map PyData.int).length, by rfl, ?_⟩
    walk_at "mo"
    refine q _ ⟨ns.map fun z => if z < 0 then -z else z, 0, 0, 7 + ((ns.map PyData.int).length : Int), ?_, by omega, by omega, by omega, by rw [List.length_map]; omega, fun x hx => ?_⟩
    · unfold tape
      rw [List.map_map]
      rfl
    · obtain ⟨z, _, rfl⟩ := List.mem_map.mp hx
      split <;> omega
theorem isi_bb {b : Bool} : isiD "bool" (.bool b) = some true := by show kitB "bool" "bool" = _; decide +kernel
theorem isi_bi {b : Int} : isiD "bool" (.int b) = some false := by show kitB "int" "bool" = _; decide +kernel
theorem isi_ib {b : Bool} : isiD "int" (.bool b) = some true := by show kitB "bool" "int" = _; decide +kernel
theorem isi_ii {b : Int} : isiD "int" (.int b) = some true := by show kitB "int" "int" = _; decide +kernel
theorem isi_ll {b : List D} : isiD "list" (.list b) = some true := by show kitB "list" "list" = _; decide +kernel
theorem isi_tt {b : List D} : isiD "tuple" (.tuple b) = some true := by show kitB "tuple" "tuple" = _; decide +kernel
theorem isi_tl {b : List D} : isiD "tuple" (.list b) = some false := by show kitB "list" "tuple" = _; decide +kernel
theorem isi_lt {b : List D} : isiD "list" (.tuple b) = some false := by show kitB "tuple" "list" = _; decide +kernel
theorem isi_ti {b : Int} : isiD "tuple" (.int b) = some false := by show kitB "int" "tuple" = _; decide +kernel
theorem isi_ts {b : Str} : isiD "tuple" (.str b) = some false := by show kitB "str" "tuple" = _; decide +kernel
theorem isi_ss {b : Str} : isiD "str" (.str b) = some true := by show kitB "str" "str" = _; decide +kernel
theorem isi_st {b : List D} : isiD "str" (.tuple b) = some false := by show kitB "tuple" "str" = _; decide +kernel
theorem isi_is {b : Str} : isiD "int" (.str b) = some false := by show kitB "str" "int" = _; decide +kernel
theorem isi_it {b : List D} : isiD "int" (.tuple b) = some false := by show kitB "tuple" "int" = _; decide +kernel
theorem w_isiE {ρ : Env} {m : ME} {n : String} {Q : D → Env → Prop} (q : Sat (m ρ) fun d ρ1 => ISI n d fun b => Q (.bool b) ρ1) : Sat (mIsi n m ρ) Q := w_isi q
theorem is_go {a b : Bool} {Q : D → Prop} (q : Q (.bool (decide (a = b)))) : SatP (runP 2 m__law_is [.bool a, .bool b]) Q := by
  refine run_P ?_
  walk_at "env"
  unfold m__law_is
  walk_at "mo"
  refine w_isiE ?_
  walk_at "mo"
  refine ⟨_, isi_bb, ?_⟩
  walk_at "mo"
  exact q
theorem isnum_go {a : Int} {Q : D → Prop} (q : Q (.bool true)) : SatP (runP 1 m__law_is_number [.int a]) Q := by
  refine run_P ?_
  walk_at "env"
  unfold m__law_is_number
  walk_at "mo"
  refine w_isiE ?_
  walk_at "mo"
  refine ⟨_, isi_ii, ?_⟩
  walk_at "mo"
  refine w_isiE ?_
  walk_at "mo"
  refine ⟨_, isi_bi, ?_⟩
  walk_at "mo"
  exact q
theorem atI_none {α : Type} {xs : List α} : True := trivial
end Mi

set_option Elab.async false
set_option linter.all false
set_option maxRecDepth 100000
namespace Mi
open PySem hiding Env ret
open PySem.Spec PyProof.Rows L2
/-! == of plain data -/
def Pn (n : Nat) (d : D) : Prop := nodic d = true ∧ d.canLay0 = true ∧ d.depth ≤ n
def PnA (n : Nat) (ds : List D) : Prop := nodicA ds = true ∧ PyData.canLayAll0 ds = true ∧ PyData.depthAll ds ≤ n
theorem pn_int {n : Nat} {i : Int} : Pn n (.int i) := ⟨rfl, by simp [PyData.canLay0], by simp [PyData.depth]⟩
theorem pn_bool {n : Nat} {i : Bool} : Pn n (.bool i) := ⟨rfl, by simp [PyData.canLay0], by simp [PyData.depth]⟩
theorem pn_none {n : Nat} : Pn n .none := ⟨rfl, by simp [PyData.canLay0], by simp [PyData.depth]⟩
theorem pn_str {n : Nat} {x : Str} (h : PyData.strOk x = true) : Pn n (.str x) := ⟨rfl, by simp [PyData.canLay0, h], by simp [PyData.depth]⟩
theorem pna_nil {n : Nat} : PnA n [] := ⟨rfl, by simp [PyData.canLayAll0], by simp [PyData.depthAll]⟩
theorem pna_cons {n : Nat} {x : D} {xs : List D} (h : Pn n x) (t : PnA n xs) : PnA n (x :: xs) := ⟨by simp [nodicA, h.1, t.1], by simp [PyData.canLayAll0, h.2.1, t.2.1], by
  have h1 := h.2.2
  have h2 := t.2.2
  simp only [PyData.depthAll]
  omega⟩
theorem pna_all {n : Nat} : ∀ {xs : List D}, (∀ x ∈ xs, Pn n x) → PnA n xs
  | [], _ => pna_nil
  | x :: xs, h => pna_cons (h x (List.mem_cons_self ..)) (pna_all fun y hy => h y (List.mem_cons_of_mem _ hy))
theorem pn_tup {n : Nat} {xs : List D} (t : PnA n xs) : Pn (n + 1) (.tuple xs) := ⟨by simp [nodic, t.1], by simp [PyData.canLay0, t.2.1], by
  have h2 := t.2.2
  simp only [PyData.depth]
  omega⟩
theorem pn_lst {n : Nat} {xs : List D} (t : PnA n xs) : Pn (n + 1) (.list xs) := ⟨by simp [nodic, t.1], by simp [PyData.canLay0, t.2.1], by
  have h2 := t.2.2
  simp only [PyData.depth]
  omega⟩
theorem okD_of {n : Nat} {d : D} (h : Pn n d) (hn : n ≤ 64) : okD d = true := by
  unfold okD SeqAt.shaped
  rw [h.1, h.2.1, decide_eq_true (Nat.le_trans h.2.2 hn)]
  rfl
theorem okL_ints (ns : List Int) : okD (.list (ns.map .int)) = true := okD_of (n := 1) (pn_lst (pna_all fun x hx => by obtain ⟨i, _, rfl⟩ := List.mem_map.mp hx; exact pn_int)) (by decide)
theorem okT_ints (ns : List Int) : okD (.tuple (ns.map .int)) = true := okD_of (n := 1) (pn_tup (pna_all fun x hx => by obtain ⟨i, _, rfl⟩ := List.mem_map.mp hx; exact pn_int)) (by decide)
theorem eqvA_ints : ∀ xs ys : List Int, PyData.eqvAll (xs.map .int) (ys.map .int) = decide (xs = ys)
  | [], [] => by simp [PyData.eqvAll]
  | [], _ :: _ => by simp [PyData.eqvAll]
  | _ :: _, [] => by simp [PyData.eqvAll]
  | x :: xs, y :: ys => by
    have ih := eqvA_ints xs ys
    simp only [List.map_cons, PyData.eqvAll, PyData.eqv, ih]
    by_cases h : x = y <;> by_cases g : xs = ys <;> simp [h, g]
theorem eqvL_ints (xs ys : List Int) : PyData.eqv (.list (xs.map .int)) (.list (ys.map .int)) = decide (xs = ys) := by rw [show PyData.eqv (.list (xs.map .int)) (.list (ys.map .int)) = PyData.eqvAll (xs.map .int) (ys.map .int) by simp [PyData.eqv]]; exact eqvA_ints xs ys
theorem eqvT_ints (xs ys : List Int) : PyData.eqv (.tuple (xs.map .int)) (.tuple (ys.map .int)) = decide (xs = ys) := by rw [show PyData.eqv (.tuple (xs.map .int)) (.tuple (ys.map .int)) = PyData.eqvAll (xs.map .int) (ys.map .int) by simp [PyData.eqv]]; exact eqvA_ints xs ys
mutual
theorem eqv_refl : ∀ d : D, nodic d = true → PyData.eqv d d = true
  | .none, _ => by simp [PyData.eqv]
  | .bool b, _ => by simp [PyData.eqv]
  | .int i, _ => by simp [PyData.eqv]
  | .str x, _ => by simp [PyData.eqv]
  | .list xs, h => by
    rw [show PyData.eqv (.list xs) (.list xs) = PyData.eqvAll xs xs by simp [PyData.eqv]]
    exact eqvA_refl xs (by simpa [nodic] using h)
  | .tuple xs, h => by
    rw [show PyData.eqv (.tuple xs) (.tuple xs) = PyData.eqvAll xs xs by simp [PyData.eqv]]
    exact eqvA_refl xs (by simpa [nodic] using h)
  | .dict _, h => by simp [nodic] at h
theorem eqvA_refl : ∀ ds : List D, nodicA ds = true → PyData.eqvAll ds ds = true
  | [], _ => by simp [PyData.eqvAll]
  | x :: xs, h => by
    simp only [nodicA, Bool.and_eq_true] at h
    simp only [PyData.eqvAll, eqv_refl x h.1, eqvA_refl xs h.2, Bool.and_self]
end
/-- equal data are == -/
theorem v_eqDr {d : D} {n : Nat} {Q : D → Prop} (h : Pn n d) (hn : n ≤ 64) (q : Q (.bool true)) : VAL (fEqD d d) Q := v_eqD (okD_of h hn) (okD_of h hn) (by rw [eqv_refl d h.1]; exact q)
theorem v_neDr {d : D} {n : Nat} {Q : D → Prop} (h : Pn n d) (hn : n ≤ 64) (q : Q (.bool false)) : VAL (fNeD d d) Q := v_neD (okD_of h hn) (okD_of h hn) (by rw [eqv_refl d h.1]; exact q)
theorem v_eqLi {xs ys : List Int} {Q : D → Prop} (q : Q (.bool (decide (xs = ys)))) : VAL (fEqD (.list (xs.map .int)) (.list (ys.map .int))) Q := v_eqD (okL_ints _) (okL_ints _) (by rw [eqvL_ints]; exact q)
theorem v_neLi {xs ys : List Int} {Q : D → Prop} (q : Q (.bool (!decide (xs = ys)))) : VAL (fNeD (.list (xs.map .int)) (.list (ys.map .int))) Q := v_neD (okL_ints _) (okL_ints _) (by rw [eqvL_ints]; exact q)
theorem v_eqTi {xs ys : List Int} {Q : D → Prop} (q : Q (.bool (decide (xs = ys)))) : VAL (fEqD (.tuple (xs.map .int)) (.tuple (ys.map .int))) Q := v_eqD (okT_ints _) (okT_ints _) (by rw [eqvT_ints]; exact q)
theorem v_neTi {xs ys : List Int} {Q : D → Prop} (q : Q (.bool (!decide (xs = ys)))) : VAL (fNeD (.tuple (xs.map .int)) (.tuple (ys.map .int))) Q := v_neD (okT_ints _) (okT_ints _) (by rw [eqvT_ints]; exact q)
/-! in, of ints -/
theorem flat_ints : ∀ ns : List Int, (ns.map PyData.int).all flatD = true
  | [] => rfl
  | n :: ns => by rw [List.map_cons, List.all_cons, flat_ints ns]; rfl
theorem inF_ints (i : Int) : ∀ ns : List Int, inF (.int i) (ns.map .int) = decide (i ∈ ns)
  | [] => by simp [inF]
  | n :: ns => by
    have ih := inF_ints i ns
    unfold inF at ih ⊢
    rw [List.map_cons, List.any_cons, ih]
    show ((n == i) || decide (i ∈ ns)) = decide (i ∈ n :: ns)
    by_cases h : n = i
    · subst h; simp
    · have h2 : ¬ i = n := fun z => h z.symm
      simp [h, h2]
theorem v_inL {i : Int} {ns : List Int} {Q : D → Prop} (q : Q (.bool (decide (i ∈ ns)))) : VAL (fIn false (.int i) (.list (ns.map .int))) Q := ⟨_, by
  show (if (flatD (.int i) && (ns.map PyData.int).all flatD) = true then some (PyData.bool (inF (.int i) (ns.map .int))) else none) = _
  rw [if_pos (by rw [flat_ints]; rfl), inF_ints], q⟩
theorem v_inT {i : Int} {ns : List Int} {Q : D → Prop} (q : Q (.bool (decide (i ∈ ns)))) : VAL (fIn false (.int i) (.tuple (ns.map .int))) Q := ⟨_, by
  show (if (flatD (.int i) && (ns.map PyData.int).all flatD) = true then some (PyData.bool (inF (.int i) (ns.map .int))) else none) = _
  rw [if_pos (by rw [flat_ints]; rfl), inF_ints], q⟩
theorem v_niL {i : Int} {ns : List Int} {Q : D → Prop} (q : Q (.bool (!decide (i ∈ ns)))) : VAL (fIn true (.int i) (.list (ns.map .int))) Q := ⟨_, by
  show (if (flatD (.int i) && (ns.map PyData.int).all flatD) = true then some (PyData.bool (!inF (.int i) (ns.map .int))) else none) = _
  rw [if_pos (by rw [flat_ints]; rfl), inF_ints], q⟩
theorem v_niT {i : Int} {ns : List Int} {Q : D → Prop} (q : Q (.bool (!decide (i ∈ ns)))) : VAL (fIn true (.int i) (.tuple (ns.map .int))) Q := ⟨_, by
  show (if (flatD (.int i) && (ns.map PyData.int).all flatD) = true then some (PyData.bool (!inF (.int i) (ns.map .int))) else none) = _
  rw [if_pos (by rw [flat_ints]; rfl), inF_ints], q⟩
/-! ranges of ints -/
def rngI (lo : Int) (n : Nat) : List Int := (List.range n).map fun (i : Nat) => lo + (i : Int)
theorem rngD_I (lo : Int) (n : Nat) : rngD lo n = (rngI lo n).map .int := by unfold rngD rngI; rw [List.map_map]; rfl
theorem rngI_len (lo : Int) (n : Nat) : (rngI lo n).length = n := by unfold rngI; rw [List.length_map, List.length_range]
theorem rngD_len (lo : Int) (n : Nat) : (rngD lo n).length = n := by unfold rngD; rw [List.length_map, List.length_range]
theorem mem_rngI {lo x : Int} {n : Nat} : x ∈ rngI lo n ↔ lo ≤ x ∧ x < lo + n := by
  unfold rngI
  rw [List.mem_map]
  constructor
  · rintro ⟨i, hi, rfl⟩
    rw [List.mem_range] at hi
    omega
  · rintro ⟨h1, h2⟩
    exact ⟨(x - lo).toNat, by rw [List.mem_range]; omega, by omega⟩
theorem rngI_succ (lo : Int) (n : Nat) : rngI lo (n + 1) = rngI lo n ++ [lo + n] := by unfold rngI; rw [List.range_succ, List.map_append]; rfl
theorem rngI_take (lo : Int) (n i : Nat) (h : i ≤ n) : (rngI lo n).take i = rngI lo i := by
  unfold rngI
  rw [← List.map_take, List.take_range, Nat.min_eq_left h]
theorem rngI_get {lo : Int} {n i : Nat} (h : i < n) : (rngI lo n)[i]? = some (lo + i) := by
  unfold rngI
  rw [List.getElem?_map, List.getElem?_range h]
  rfl
theorem rngI_pw (lo : Int) : ∀ n : Nat, (rngI lo n).Pairwise (· < ·)
  | 0 => .nil
  | n + 1 => by
    rw [rngI_succ, List.pairwise_append]
    refine ⟨rngI_pw lo n, List.pairwise_singleton .., fun a ha b hb => ?_⟩
    rw [List.mem_singleton] at hb
    have := mem_rngI.mp ha
    omega
/-- two ascending lists with the same items are one -/
theorem asc_ext : ∀ {xs ys : List Int}, xs.Pairwise (· < ·) → ys.Pairwise (· < ·) → (∀ z, z ∈ xs ↔ z ∈ ys) → xs = ys
  | [], [], _, _, _ => rfl
  | [], y :: ys, _, _, h => absurd ((h y).mpr (List.mem_cons_self ..)) (by simp)
  | x :: xs, [], _, _, h => absurd ((h x).mp (List.mem_cons_self ..)) (by simp)
  | x :: xs, y :: ys, p, q, h => by
    obtain ⟨p1, p2⟩ := List.pairwise_cons.mp p
    obtain ⟨q1, q2⟩ := List.pairwise_cons.mp q
    have e : x = y := by
      have h1 := (h x).mp (List.mem_cons_self ..)
      have h2 := (h y).mpr (List.mem_cons_self ..)
      rcases List.mem_cons.mp h1 with z | z
      · exact z
      · rcases List.mem_cons.mp h2 with w | w
        · exact w.symm
        · have := q1 _ z; have := p1 _ w; omega
    subst e
    rw [asc_ext p2 q2 fun z => ?_]
    constructor
    · intro hz
      have l := p1 z hz
      rcases List.mem_cons.mp ((h z).mp (List.mem_cons_of_mem _ hz)) with w | w
      · omega
      · exact w
    · intro hz
      have l := q1 z hz
      rcases List.mem_cons.mp ((h z).mpr (List.mem_cons_of_mem _ hz)) with w | w
      · omega
      · exact w
/-- both ways of an if come to one thing -/
theorem SatS.mono {o : Out} {N N' : Env → Prop} {Rt : D → Env → Prop} {B C : Env → Prop} {X : Str → D → Env → Prop} (h : SatS o N Rt B C X) (q : ∀ ρ, N ρ → N' ρ) : SatS o N' Rt B C X := by
  cases o with
  | nx ρ => exact q ρ h
  | rt d ρ => exact h
  | bk ρ => exact h
  | ct ρ => exact h
  | exc c d ρ => exact h
  | stuck => exact h
theorem if_join {b : Bool} {s1 s2 : Out} {N : Env → Prop} {Rt : D → Env → Prop} {B C : Env → Prop} {X : Str → D → Env → Prop} (P : Env → Prop) (h1 : b = true → SatS s1 P Rt B C X) (h2 : b = false → SatS s2 P Rt B C X) (h : ∀ ρ, P ρ → N ρ) : IFV b (SatS s1 N Rt B C X) (SatS s2 N Rt B C X) := by
  cases b with
  | true => exact if_t ((h1 rfl).mono h)
  | false => exact if_f ((h2 rfl).mono h)
theorem seq_join {m1 m2 : MS} {ρ : Env} {N : Env → Prop} {Rt : D → Env → Prop} {B C : Env → Prop} {X : Str → D → Env → Prop} (P : Env → Prop) (h1 : SatS (m1 ρ) P Rt B C X) (h : ∀ ρ, P ρ → SatS (m2 ρ) N Rt B C X) : SatS (mSeq m1 m2 ρ) N Rt B C X := w_seq (h1.mono h)
theorem dropLast_last {α : Type} : ∀ {xs : List α}, xs ≠ [] → ∃ r p, xs = r ++ [p]
  | [], h => absurd rfl h
  | [x], _ => ⟨[], x, rfl⟩
  | x :: y :: r, _ => by
    obtain ⟨r', p, e⟩ := dropLast_last (xs := y :: r) (by simp)
    exact ⟨x :: r', p, by rw [e]; rfl⟩
end Mi

set_option Elab.async false
set_option linter.all false
set_option maxRecDepth 100000
namespace Mi
open PySem PySem.Spec PyProof.Rows L2
section
variable {K : PySem.W.Frag} {mg : Str → Option Value} {E : L2.St → XK} {ta tb tc te td ty tv tx : TE} {ma mb mc m mk mv mx : ME} {ρ : Env} {Q : D → Env → Prop}
theorem passE {X : Cx} : Passes (L2.CX X.prog X.w) X E0 := fun _ _ _ _ _ _ _ h => by
  obtain ⟨_, _, _, _, _, _, _, _, _, _, _, _, h⟩ := h
  exact h.elim
/-! sum of a tuple of ints -/
def rSumT (K : PySem.W.Frag) : List V → Hp → VK → Prop := fun vs H Q => ∃ (a : Addr) (ns : List Int), vs = [V.ref a] ∧ SqT K H a (ns.map V.int) ∧ Q (.int ns.sum) H
theorem cr_sumT {X : Cx} (hc : X.calm = true) : CallR X (.builtin "sum") (rSumT X.K) := by
  intro pins s σ H vs us Q I r h
  obtain ⟨a, ns, rfl, hs, q⟩ := h
  obtain ⟨its, rv, hl, _⟩ := I.tuple hs
  rw [Vals.ref1 r]
  have hi := rv.ints
  obtain ⟨xs, e⟩ := hi.allInts.items
  have hn : numsOf (intItems xs).toList = ns := by rw [← e]; exact hi.numsOf
  rw [nums_intItems] at hn
  have hl : s.heap.IsTuple a its.toArray := hl
  rw [e] at hl
  refine PySem.W.ktm_sumG (I.ok.hd hc) hl fun h' tk t' hk => ?_
  rw [preSum_eq, List.take_of_length_le (by simp), hn]
  exact ⟨.int _, H, I.kept hk, ⟨_, rfl⟩, q⟩
def cbSumT : List D → Option D
  | [.tuple ds] => (intsD ds).map fun ns => .int ns.sum
  | _ => none
theorem cs_sumT : CbSh K (rSumT K) cbSumT := CbS.sh fun F H xs ds d Q s rx e q => by
  unfold cbSumT at e
  split at e
  · rename_i es
    obtain ⟨v, rfl, hv⟩ := one_rp rx
    cases z : intsD es with
    | none => rw [z] at e; cases e
    | some ns =>
      rw [z] at e
      cases e
      cases hv with
      | tup h1 h2 => exact ⟨_, ns, rfl, by rw [← h2.ints (intsD_eq z)]; exact s.seqT h1, q _ (.int _)⟩
  · cases e
theorem v_sumT {ns : List Int} {Q : D → Prop} (q : Q (.int ns.sum)) : VAL (cbSumT [.tuple (ns.map .int)]) Q := ⟨_, by show (intsD (ns.map .int)).map _ = _; rw [intsD_map]; rfl, q⟩
/-! x[i], x a list or a tuple -/
def fIxQ : D → D → Option D
  | .list ds, .int i => atI ds i
  | .tuple ds, .int i => atI ds i
  | _, _ => none
def rIxQ (K : PySem.W.Frag) : L2.R2 := fun x y H Q => rIxL K x y H Q ∨ rIxT K x y H Q
theorem ix_q {X : Cx} : IxR X (rIxQ X.K) := IxR.or ix_list ix_tup
theorem s_ixQ : OpSh K (rIxQ K) fIxQ := fun Φ F σ H ρ x y dx dy d Q rr rx ry e q => by
  cases dx <;> first | (cases e; done) | skip
  · exact .inl (s_ixL Φ F σ H ρ x y _ dy d Q rr rx ry (by cases dy <;> first | (cases e; done) | exact e) q)
  · exact .inr (s_ixT Φ F σ H ρ x y _ dy d Q rr rx ry (by cases dy <;> first | (cases e; done) | exact e) q)
theorem v_ixQL {d : D} {ds : List D} {i : Int} {Q : D → Prop} (h : atI ds i = some d) (q : Q d) : VAL (fIxQ (.list ds) (.int i)) Q := ⟨d, h, q⟩
theorem v_ixQT {d : D} {ds : List D} {i : Int} {Q : D → Prop} (h : atI ds i = some d) (q : Q d) : VAL (fIxQ (.tuple ds) (.int i)) Q := ⟨d, h, q⟩
/-! math.gcd, math.lcm -/
def cbGcd : List D → Option D
  | [.int a, .int b] => some (.int ((Nat.gcd a.natAbs b.natAbs : Nat) : Int))
  | _ => none
theorem cs_gcd : CbSh K rGcd cbGcd := CbS.sh fun F H xs ds d Q s rx e q => by
  unfold cbGcd at e
  split at e
  · obtain ⟨v, w, rfl, hv, hw⟩ := two_rp rx
    cases e
    cases hv
    cases hw
    exact ⟨_, _, rfl, q _ (.int _)⟩
  · cases e
theorem v_gcd {a b : Int} {Q : D → Prop} (q : Q (.int ((Nat.gcd a.natAbs b.natAbs : Nat) : Int))) : VAL (cbGcd [.int a, .int b]) Q := ⟨_, rfl, q⟩
def rLcm : List V → Hp → VK → Prop := fun vs H Q => ∃ a b : Int, vs = [.int a, .int b] ∧ (a.natAbs < 18446744073709551616 ∧ b.natAbs < 18446744073709551616) ∧ Q (.int ((Nat.lcm a.natAbs b.natAbs : Nat) : Int)) H
theorem lcm_le (a b : Nat) : Nat.lcm a b ≤ a * b := Nat.div_le_self _ _
theorem cr_lcm {X : Cx} : CallR X (.builtin "math.lcm") rLcm := by
  intro pins s σ H vs us Q I r h
  obtain ⟨a, b, rfl, ⟨ha, hb⟩, q⟩ := h
  obtain ⟨t, u, rfl⟩ := Vals.int2 r
  have e : (Nat.lcm 1 a.natAbs).lcm b.natAbs = Nat.lcm a.natAbs b.natAbs := by rw [Nat.lcm_one_left]
  refine PySem.W.mg_lcm ha hb ?_ ?_
  · rw [e, Int.natAbs_natCast]
    have h1 := lcm_le a.natAbs b.natAbs
    have h2 : a.natAbs * b.natAbs ≤ 18446744073709551616 * 18446744073709551616 := Nat.mul_le_mul (Nat.le_of_lt ha) (Nat.le_of_lt hb)
    have h3 := PySem.W.mg_log (n := Nat.lcm a.natAbs b.natAbs) (k := 128) (by omega)
    unfold bitsLine
    omega
  · rw [e]
    exact ⟨.int _, H, I.tok _, ⟨_, rfl⟩, q⟩
def cbLcm : List D → Option D
  | [.int a, .int b] => if (decide (a.natAbs < 18446744073709551616) && decide (b.natAbs < 18446744073709551616)) = true then some (.int ((Nat.lcm a.natAbs b.natAbs : Nat) : Int)) else none
  | _ => none
theorem cs_lcm : CbSh K rLcm cbLcm := CbS.sh fun F H xs ds d Q s rx e q => by
  unfold cbLcm at e
  split at e
  · obtain ⟨v, w, rfl, hv, hw⟩ := two_rp rx
    split at e
    · rename_i h
      simp only [Bool.and_eq_true, decide_eq_true_eq] at h
      cases e
      cases hv
      cases hw
      exact ⟨_, _, rfl, h, q _ (.int _)⟩
    · cases e
  · cases e
theorem v_lcm {a b : Int} {Q : D → Prop} (h : a.natAbs < 18446744073709551616 ∧ b.natAbs < 18446744073709551616) (q : Q (.int ((Nat.lcm a.natAbs b.natAbs : Nat) : Int))) : VAL (cbLcm [.int a, .int b]) Q := ⟨_, by
  show (if (decide (a.natAbs < 18446744073709551616) && decide (b.natAbs < 18446744073709551616)) = true then _ else _) = _
  rw [if_pos (by rw [decide_eq_true h.1, decide_eq_true h.2]; rfl)], q⟩
theorem v_maxL {ns : List Int} {m : Int} {Q : D → Prop} (h : maxI ns = some m) (q : Q (.int m)) : VAL (cbMax [.list (ns.map .int)]) Q := ⟨_, by show ((intsD (ns.map .int)).bind maxI).map _ = _; rw [intsD_map]; show (maxI ns).map _ = _; rw [h]; rfl, q⟩
theorem v_minL {ns : List Int} {m : Int} {Q : D → Prop} (h : minI ns = some m) (q : Q (.int m)) : VAL (cbMin [.list (ns.map .int)]) Q := ⟨_, by show ((intsD (ns.map .int)).bind minI).map _ = _; rw [intsD_map]; show (minI ns).map _ = _; rw [h]; rfl, q⟩
theorem maxI_ex {ns : List Int} (h : ns ≠ []) : ∃ m, maxI ns = some m := by
  cases ns with
  | nil => exact absurd rfl h
  | cons n ns => exact ⟨_, rfl⟩
theorem minI_ex {ns : List Int} (h : ns ≠ []) : ∃ m, minI ns = some m := by
  cases ns with
  | nil => exact absurd rfl h
  | cons n ns => exact ⟨_, rfl⟩
theorem for_mono {tg : MG} {b : MS} {xs : List D} {ρ : Env} {P N : Env → Prop} {Rt : D → Env → Prop} {Xp : Str → D → Env → Prop} (h : FORW tg b xs ρ P Rt Xp) (q : ∀ ρ, P ρ → N ρ) : FORW tg b xs ρ N Rt Xp := fun B C => (h B C).mono q
theorem w_retIf {mt : MT} {ma mb : ME} {ρ : Env} {N : Env → Prop} {Rt : D → Env → Prop} {B C : Env → Prop} {Xp : Str → D → Env → Prop} (q : SatT (mt ρ) fun c ρ1 => IFV c (SatS (mRet ma ρ1) N Rt B C Xp) (SatS (mRet mb ρ1) N Rt B C Xp)) : SatS (mRet (mIf mt ma mb) ρ) N Rt B C Xp := by
  obtain ⟨c, ρ1, e1, q⟩ := q
  unfold mRet mIf
  rw [e1]
  unfold IFV at q
  show SatS ((if c = true then ma ρ1 else mb ρ1).out fun p => .rt p.1 p.2) N Rt B C Xp
  split at q
  · rw [if_pos (by assumption)]; exact q
  · rw [if_neg (by assumption)]; exact q
theorem v_nin {a : D} {ds : List D} {Q : D → Prop} (h1 : flatD a = true) (h2 : ds.all flatD = true) (h3 : inF a ds = true) (q : Q (.bool false)) : VAL (fIn true a (.list ds)) Q := ⟨_, by show (if (flatD a && ds.all flatD) = true then some (PyData.bool (!inF a ds)) else none) = _; rw [h1, h2, h3]; rfl, q⟩
/-- any number for a min or a max -/
theorem v_minAny {a b : Int} {Q : D → Prop} (q : ∀ t : Int, Q (.int t)) : VAL (cbMin2 [.int a, .int b]) Q := v_min2 (q _)
/-! d.get(k, x) of a dict that is fixed -/
def isDic : D → Bool
  | .dict ((.none, _) :: _) => false
  | .dict _ => true
  | _ => false
def fGet2 : D → D → D → Option D
  | .dict kds, k, x => (keyD k).map fun k => (valD kds k).getD x
  | _, _, _ => none
def mGet2 (md mk mx : ME) : ME := fun ρ => (md ρ).bind fun p => if isDic p.1 = true then (mk p.2).bind fun q => (mx q.2).bind fun r => ret (fGet2 p.1 q.1 r.1) r.2 else .stuck
theorem sh_get2 (hd : ShE K mg E td m) (hk : ShE K mg E ty mk) (hx : ShE K mg E tx mx) : ShE K mg E (tDGet2 td ty tx) (mGet2 m mk mx) := by
  intro Φ F σ H ρ Q W rr x g
  have g1 := Good.bind (r := m ρ) g
  refine hd Φ F σ H ρ _ W rr x (g1.mono (fun p gp v F1 H1 r1 s1 rv => ?_) fun _ _ _ w => w)
  obtain ⟨p1, p2⟩ := p
  have gp : Good (if isDic p1 = true then (mk p2).bind fun q => (mx q.2).bind fun r => ret (fGet2 p1 q.1 r.1) r.2 else .stuck) _ _ := gp
  by_cases hi : isDic p1 = true
  · rw [if_pos hi] at gp
    obtain ⟨a, kvs, kds, rfl, rfl, e1, rk⟩ : ∃ a kvs kds, v = .ref a ∧ p1 = .dict kds ∧ F1 a = some (.dK kvs) ∧ RpK K F1 kvs kds := by
      cases rv with
      | dic h1 h2 => exact ⟨_, _, _, rfl, rfl, h1, h2⟩
      | _ => cases hi
    refine ⟨a, rfl, .inl ⟨kvs, .inl (r1.sub _ _ e1)⟩, ?_⟩
    have g2 := gp.bind
    refine hk Φ F1 σ H1 p2 _ W r1 x (g2.mono (fun q gq v2 F2 H2 r2 s2 rv2 => ?_) fun _ _ _ w => up.weak s1 w)
    have g3 := gq.bind
    refine hx Φ F2 σ H2 q.2 _ W r2 x (g3.mono (fun r gr v3 F3 H3 r3 s3 rv3 => ?_) fun _ _ _ w => up.weak (s1.trans s2) w)
    cases ek : keyD q.1 with
    | none =>
      have : fGet2 (.dict kds) q.1 r.1 = none := by show (keyD q.1).map _ = _; rw [ek]; rfl
      rw [this] at gr
      exact gr.elim
    | some k =>
      have ef : fGet2 (.dict kds) q.1 r.1 = some ((valD kds k).getD r.1) := by show (keyD q.1).map _ = _; rw [ek]; rfl
      rw [ef] at gr
      obtain ⟨rfl, _⟩ := keyD_ok rv2 ek
      have e3 : H3 a = some (.dK kvs) := r3.sub _ _ (s3 _ _ (s2 _ _ e1))
      refine ⟨valV kvs k, DGet.k e3, ?_⟩
      refine gr _ F3 H3 r3 ((s1.trans s2).trans s3) ?_
      rcases valD_ok (k := k) (rk.mono (s2.trans s3)) with ⟨h1, h2⟩ | ⟨w, d, h1, h2, h3⟩
      · rw [h1, h2]; exact rv3
      · rw [h1, h2]; exact h3
  · rw [if_neg hi] at gp
    exact gp.elim
theorem w_get2 (q : Sat (m ρ) fun a ρ1 => isDic a = true ∧ Sat (mk ρ1) fun b ρ2 => Sat (mx ρ2) fun c ρ3 => VAL (fGet2 a b c) fun d => Q d ρ3) : Sat (mGet2 m mk mx ρ) Q := by
  obtain ⟨a, ρ1, e1, hi, b, ρ2, e2, c, ρ3, e3, d, e4, q⟩ := q
  exact ⟨d, ρ3, by unfold mGet2; rw [e1]; show (if isDic a = true then _ else _) = _; rw [if_pos hi, e2]; show (mx ρ2).bind _ = _; rw [e3]; show ret _ _ = _; rw [e4]; rfl, q⟩
end
/-! x in own, the list only looked at -/
def mPkR (neg : Bool) (m : ME) (j : Nat) : ME := fun ρ => match mu ρ j with
  | some _ => (m ρ).bind fun p => match mu p.2 j with
    | some (.list ds) => ret (fIn neg p.1 (.list ds)) p.2
    | _ => .stuck
  | none => mOp (fIn neg) m (mVar j) ρ
section
variable {K : PySem.W.Frag} {mg : Str → Option Value} {E : L2.St → XK} {te : TE} {m : ME} {ρ : Env} {Q : D → Env → Prop}
theorem pk_inR {neg : Bool} {F H : Hp} {a : Addr} {v : V} {dx d z : D} {Q : VK} (ow : OwnR K F H a d) (rv : Rp K F v dx) (e : fIn neg dx d = some z) (q : ∀ w, Rp K F w z → Q w H) : rIn K neg v (.ref a) H Q := by
  unfold fIn at e
  cases y : itemsD d with
  | none => rw [y] at e; cases e
  | some ds =>
    rw [y] at e
    have e : (if (flatD dx && ds.all flatD) = true then some (PyData.bool (if neg then !inF dx ds else inF dx ds)) else none) = some z := e
    split at e
    · rename_i h
      rw [Bool.and_eq_true] at h
      cases e
      cases d <;> first | (cases y; done) | skip
      · cases y
        obtain ⟨vs, h1, h2⟩ := ow
        obtain ⟨i1, i2⟩ := inF_ok rv h.1 h2 h.2
        exact ⟨_, _, rfl, .inl (SqL.of h1), flat_ok rv h.1, i1, by rw [i2]; exact q _ (.bl _)⟩
      · exact ow.elim
    · cases e
theorem sh_pkR {neg : Bool} {j : Nat} (h : ShE K mg E te m) : ShE K mg E (tOp (rIn K neg) te (tVar j)) (mPkR neg m j) := by
  intro Φ F σ H ρ Q W rr x g
  unfold mPkR at g
  cases e : mu ρ j with
  | none => rw [e] at g; exact sh_op (s_in neg) h (sh_var j) Φ F σ H ρ Q W rr x g
  | some d0 =>
    rw [e] at g
    refine h Φ F σ H ρ _ W rr x ((Good.bind (r := m ρ) g).mono (fun p gp v F1 H1 r1 s1 rv => ?_) fun _ _ _ w => w)
    split at gp
    · rename_i ds e1
      obtain ⟨a, ea, nF, ow⟩ := r1.mu e1
      unfold ret at gp
      cases e2 : fIn neg p.1 (.list ds) with
      | none => rw [e2] at gp; exact gp.elim
      | some z =>
        rw [e2] at gp
        exact ⟨_, ea, pk_inR (d := .list ds) ow rv e2 fun w rw' => gp w F1 H1 r1 s1 rw'⟩
    · exact gp.elim
theorem w_pkR {neg : Bool} {j : Nat} (q : MU (mu ρ j) fun _ => Sat (m ρ) fun a ρ1 => MU (mu ρ1 j) fun d => ISLs d fun ds => VAL (fIn neg a (.list ds)) fun z => Q z ρ1) : Sat (mPkR neg m j ρ) Q := by
  obtain ⟨d0, e0, a, ρ1, e1, d, e2, ds, rfl, z, e3, q⟩ := q
  exact ⟨z, ρ1, by unfold mPkR; rw [e0]; show (m ρ).bind _ = _; rw [e1]; dsimp only [Res.bind]; rw [e2]; show ret _ _ = _; rw [e3]; rfl, q⟩
end
/-! try .. except X: without a name -/
section
variable {K : PySem.W.Frag} {mg : Str → Option Value} {E : L2.St → XK}
def mTryO (c : Str) (mb ms : MS) : MS := fun ρ => match mb ρ with
  | .exc c' d ρ' => if c' = c then ms ρ' else .stuck
  | o => o
theorem shs_tryO {tb : WX → TS} {ts : TS} {Wout : WX} {c : Str} {C : Addr} {mb ms : MS} (hb : ∀ W : WX, ShS K mg (fun σ cls d H => W cls d σ H) (tb W) mb) (gC : mg c = some (.ref C)) (te : PySem.W.exmOne K (.ref C) (.ref C) = some true)
    (hs : ShS K mg E ts ms) : ShS K mg E (fun D σ H => tb (wOnly K (.ref C) (fun _ _ _ => ts) Wout D) D σ H) (mTryO c mb ms) := by
  intro Φ F σ H ρ De W r x gg
  refine hb (wOnly K (.ref C) (fun _ _ _ => ts) Wout De) Φ F σ H ρ De (fun c' d F' ρ' => Same F F' ∧ GoodS K Φ F' De W (if c' = c then ms ρ' else .stuck)) r ?_ ?_
  · intro c' d ρ' F' σ' H' C' dx fs r' em ex nF n0 rx w
    obtain ⟨sF, w⟩ := w
    split at w
    · rename_i q
      subst q
      rw [gC] at em
      cases em
      exact ⟨true, te, fun _ a na => hs Φ F' σ' H' ρ' De W r' x w, fun q => Bool.noConfusion q⟩
    · exact w.elim
  · unfold mTryO at gg
    cases e : mb ρ with
    | exc c' d ρ' => rw [e] at gg; exact fun F' s => ⟨s, gg.weak s⟩
    | nx ρ' => rw [e] at gg; exact gg
    | rt d ρ' => rw [e] at gg; exact gg
    | bk ρ' => rw [e] at gg; exact gg
    | ct ρ' => rw [e] at gg; exact gg
    | stuck => rw [e] at gg; exact gg
theorem w_tryO {c : Str} {mb ms : MS} {ρ : Env} {N : Env → Prop} {Rt : D → Env → Prop} {B C : Env → Prop} {Xp : Str → D → Env → Prop} (q : SatS (mb ρ) N Rt B C fun c' _ ρ' => c' = c ∧ SatS (ms ρ') N Rt B C Xp) : SatS (mTryO c mb ms ρ) N Rt B C Xp := by
  unfold mTryO
  cases e : mb ρ with
  | exc c' d ρ' =>
    rw [e] at q
    obtain ⟨h, q⟩ := q
    show SatS (if c' = c then ms ρ' else .stuck) N Rt B C Xp
    rw [if_pos h]
    exact q
  | nx ρ' => rw [e] at q; exact q
  | rt d ρ' => rw [e] at q; exact q
  | bk ρ' => rw [e] at q; exact q
  | ct ρ' => rw [e] at q; exact q
  | stuck => rw [e] at q; exact q
end
end Mi

set_option Elab.async false
set_option linter.all false
set_option maxRecDepth 100000
namespace Mi
open PySem PySem.Spec PyProof.Rows L2
/-! sorted of pairs of ints, of any number -/
abbrev PI := Int × Int
def leP (p q : PI) : Prop := SrtO.lexB q p = false
instance {p q : PI} : Decidable (leP p q) := by unfold leP; infer_instance
theorem leP_tr {p q r : PI} (h : leP p q) (g : leP q r) : leP p r := by
  unfold leP at *
  rw [SrtO.lexB_no] at *
  omega
theorem leP_tot {p q : PI} (h : ¬ leP p q) : leP q p := by
  unfold leP at *
  rw [SrtO.lexB_no] at *
  omega
theorem leP_anti {p q : PI} (h : leP p q) (g : leP q p) : p = q := by
  unfold leP at *
  rw [SrtO.lexB_no] at *
  obtain ⟨a, b⟩ := p
  obtain ⟨c, d⟩ := q
  dsimp only at *
  have h1 : a = c := by omega
  have h2 : b = d := by omega
  rw [h1, h2]
def insP (x : PI) : List PI → List PI
  | [] => [x]
  | y :: ys => if leP x y then x :: y :: ys else y :: insP x ys
def sortP : List PI → List PI
  | [] => []
  | x :: xs => insP x (sortP xs)
theorem insP_perm (x : PI) : ∀ ys : List PI, (insP x ys).Perm (x :: ys)
  | [] => .refl _
  | y :: ys => by
    unfold insP
    split
    · exact .refl _
    · exact ((insP_perm x ys).cons y).trans (.swap x y ys)
theorem sortP_perm : ∀ xs : List PI, (sortP xs).Perm xs
  | [] => .refl _
  | x :: xs => (insP_perm x _).trans ((sortP_perm xs).cons x)
theorem insP_pw (x : PI) : ∀ ys : List PI, ys.Pairwise leP → (insP x ys).Pairwise leP
  | [], _ => List.pairwise_singleton ..
  | y :: ys, h => by
    obtain ⟨h1, h2⟩ := List.pairwise_cons.mp h
    unfold insP
    split
    · rename_i c
      refine List.pairwise_cons.mpr ⟨fun z hz => ?_, h⟩
      rcases List.mem_cons.mp hz with rfl | hz
      · exact c
      · exact leP_tr c (h1 z hz)
    · rename_i c
      refine List.pairwise_cons.mpr ⟨fun z hz => ?_, insP_pw x ys h2⟩
      rcases List.mem_cons.mp ((insP_perm x ys).mem_iff.mp hz) with rfl | hz
      · exact leP_tot c
      · exact h1 z hz
theorem sortP_pw : ∀ xs : List PI, (sortP xs).Pairwise leP
  | [] => .nil
  | x :: xs => insP_pw x _ (sortP_pw xs)
theorem sortP_eq : ∀ {xs ys : List PI}, xs.Perm ys → xs.Pairwise leP → ys.Pairwise leP → xs = ys
  | [], ys, p, _, _ => p.nil_eq
  | x :: xs, [], p, _, _ => absurd p.length_eq (by simp)
  | x :: xs, y :: ys, p, h1, h2 => by
    obtain ⟨a1, a2⟩ := List.pairwise_cons.mp h1
    obtain ⟨b1, b2⟩ := List.pairwise_cons.mp h2
    have rf : leP x x := by unfold leP; rw [SrtO.lexB_no]; omega
    have e1 : x ∈ y :: ys := p.mem_iff.mp (List.mem_cons_self ..)
    have e2 : y ∈ x :: xs := p.mem_iff.mpr (List.mem_cons_self ..)
    have e : x = y := by
      have l1 : leP y x := by
        rcases List.mem_cons.mp e1 with z | z
        · rw [← z]; exact rf
        · exact b1 _ z
      have l2 : leP x y := by
        rcases List.mem_cons.mp e2 with z | z
        · rw [z]; exact rf
        · exact a1 _ z
      exact leP_anti l2 l1
    subst e
    rw [sortP_eq (p.cons_inv) a2 b2]
def encI (p : PI) : D := .tuple [.int p.1, .int p.2]
/-- the pairs of some values -/
def Al (K : PySem.W.Frag) (H : Hp) : List V → List PI → Prop
  | [], [] => True
  | x :: xs, p :: ps => (∃ t, x = V.ref t ∧ SqT K H t [.int p.1, .int p.2]) ∧ Al K H xs ps
  | _, _ => False
def rSortP (K : PySem.W.Frag) : List V → Hp → VK → Prop := fun vs H Q => ∃ (a : Addr) (xs : List V) (ps : List PI), vs = [V.ref a] ∧ SqL K H a xs ∧ Al K H xs ps ∧
  ∀ (ys : List V) (p : Addr) (k : V → PI), xs.map k = ps → ys.Perm xs → ys.map k = sortP ps → H p = none → Q (.ref p) (upd H p (.lst ys))
open Classical in
theorem cr_sortP {X : Cx} : CallR X (.builtin "sorted") (rSortP X.K) := by
  intro pins s σ H vs us Q I r h
  obtain ⟨a, xs, ps, rfl, hs, hx, q⟩ := h
  let k : V → PI := fun x => if h : ∃ p : PI, ∃ t, x = V.ref t ∧ SqT X.K H t [.int p.1, .int p.2] then Classical.choose h else (0, 0)
  have kv : ∀ (x : V) (p : PI), (∃ t, x = V.ref t ∧ SqT X.K H t [.int p.1, .int p.2]) → k x = p := fun x p h => by
    have e : ∃ p : PI, ∃ t, x = V.ref t ∧ SqT X.K H t [.int p.1, .int p.2] := ⟨p, h⟩
    have c := Classical.choose_spec e
    show (if h : ∃ p : PI, ∃ t, x = V.ref t ∧ SqT X.K H t [.int p.1, .int p.2] then Classical.choose h else (0, 0)) = p
    rw [dif_pos e]
    obtain ⟨t, rfl, h1⟩ := h
    obtain ⟨t', e', h2⟩ := c
    cases e'
    have z := I.tuple_inj h1 h2
    injection z with z1 z2
    injection z2 with z2 _
    injection z1 with z1
    injection z2 with z2
    exact Prod.ext z1.symm z2.symm
  have al : ∀ {xs : List V} {ps : List PI}, Al X.K H xs ps → xs.map k = ps ∧ ∀ x ∈ xs, ∃ t, x = V.ref t ∧ SqT X.K H t [.int (k x).1, .int (k x).2] := by
    intro xs
    induction xs with
    | nil => intro ps h; cases ps with
      | nil => exact ⟨rfl, fun x hx => by cases hx⟩
      | cons p ps => exact h.elim
    | cons x xs ih => intro ps h; cases ps with
      | nil => exact h.elim
      | cons p ps =>
        obtain ⟨h1, h2⟩ := ih h.2
        have e := kv x p h.1
        refine ⟨by rw [List.map_cons, e, h1], fun y hy => ?_⟩
        rcases List.mem_cons.mp hy with rfl | hy
        · rw [e]; exact h.1
        · exact h2 y hy
  obtain ⟨hk, hall⟩ := al hx
  obtain ⟨its, rv, hl, hz⟩ := I.list hs
  obtain ⟨u, rfl, ru⟩ := vals1 r
  obtain rfl : u = Value.ref a := ru
  obtain ⟨e1, e2⟩ := refs_back rv fun x m => by
    obtain ⟨t, e, _⟩ := hall x m
    exact ⟨t, e⟩
  refine SrtO.sorted_pairsO (k := fun u => k (backV u)) hl.isList (by rw [← rv.length]; exact hz) (fun v hv => ?_) fun h' d out h1 h2 kp hd hn => ?_
  · obtain ⟨t, rfl⟩ := e2 v hv
    have hm : V.ref t ∈ xs := by rw [e1]; exact List.mem_map.mpr ⟨_, hv, rfl⟩
    obtain ⟨t', e, ht⟩ := hall _ hm
    cases e
    obtain ⟨its2, r2, ⟨o, ho, hc, n, hd⟩, _⟩ := I.tuple ht
    obtain ⟨u1, u2, rfl, ri, rj⟩ := vals2 r2
    obtain ⟨t1, rfl⟩ := ri
    obtain ⟨t2, rfl⟩ := rj
    exact ⟨t, o, t1, t2, n, rfl, ho, hc, hd⟩
  · have h3 : ∀ u ∈ out, ∃ a, u = Value.ref a := fun u hu => e2 u (h2.perm.mem_iff.mp hu)
    obtain ⟨n, hn⟩ := hn
    have hb : SrtO.Stb (ltP k) (out.map backV) xs := by
      rw [e1]
      exact SrtO.Stb.map (ltP_swo k) backV h2
    have hs : SrtO.Srtd (ltP k) (out.map backV) := SrtO.srtd_map h1
    refine ⟨.ref d, upd H d (.lst (out.map backV)), I.laid (t' := s.toks) kp hd ⟨?_, out, n, vals_back h3, hn⟩, rfl, q _ d k hk hb.perm ?_ (I.hok.fresh hd)⟩
    · rw [hb.len]
      exact hz
    · refine sortP_eq ?_ ?_ (sortP_pw ps)
      · exact ((hb.perm.map k).trans (by rw [hk])).trans (sortP_perm ps).symm
      · exact List.pairwise_map.mpr hs
section
variable {K : PySem.W.Frag} {mg : Str → Option Value} {E : L2.St → XK} {te : TE} {m : ME} {ρ : Env}
def pairsD : List D → Option (List PI)
  | [] => some []
  | .tuple [.int i, .int j] :: r => (pairsD r).map fun ps => (i, j) :: ps
  | _ => none
theorem pairsD_map : ∀ ps : List PI, pairsD (ps.map encI) = some ps
  | [] => rfl
  | p :: ps => by
    show (pairsD (ps.map encI)).map _ = _
    rw [pairsD_map ps]
    rfl
theorem pairsD_eq : ∀ {ds : List D} {ps : List PI}, pairsD ds = some ps → ds = ps.map encI
  | [], ps, e => by cases e; rfl
  | d :: r, ps, e => by
    unfold pairsD at e
    split at e
    · rename_i e0
      cases e0
    · rename_i i j r' e0
      cases e0
      cases z : pairsD r with
      | none => rw [z] at e; cases e
      | some qs =>
        rw [z] at e
        cases e
        rw [pairsD_eq z]
        rfl
    · cases e
def cbSortP : List D → Option D
  | [.list ds] => (pairsD ds).map fun ps => .list ((sortP ps).map encI)
  | _ => none
theorem al_of {F H : Hp} (s : Same F H) : ∀ {vs : List V} {ps : List PI}, RpA K F vs (ps.map encI) → Al K H vs ps
  | [], [], _ => trivial
  | [], _ :: _, h => by cases h
  | _ :: _, [], h => by cases h
  | v :: vs, p :: ps, h => by
    have h : RpA K F (v :: vs) (encI p :: ps.map encI) := h
    cases h with
    | cons h1 h2 =>
      refine ⟨?_, al_of s h2⟩
      cases h1 with
      | tup h3 h4 =>
        cases h4 with
        | cons a1 a2 =>
          cases a1
          cases a2 with
          | cons b1 b2 =>
            cases b1
            cases b2
            exact ⟨_, rfl, s.seqT h3⟩
theorem rp_key {F : Hp} {k : V → PI} : ∀ {vs : List V} {ps : List PI}, RpA K F vs (ps.map encI) → vs.map k = ps → ∀ x ∈ vs, Rp K F x (encI (k x))
  | [], _, _, _, _, hx => by cases hx
  | v :: vs, [], _, e, _, _ => by cases e
  | v :: vs, p :: ps, h, e, x, hx => by
    have h : RpA K F (v :: vs) (encI p :: ps.map encI) := h
    injection e with e1 e2
    cases h with
    | cons h1 h2 =>
      rcases List.mem_cons.mp hx with rfl | hx
      · rw [e1]; exact h1
      · exact rp_key h2 e2 x hx
theorem rpA_key {F : Hp} {k : V → PI} : ∀ {ys : List V}, (∀ x ∈ ys, Rp K F x (encI (k x))) → RpA K F ys ((ys.map k).map encI)
  | [], _ => .nil
  | y :: ys, h => .cons (h y (List.mem_cons_self ..)) (rpA_key fun x hx => h x (List.mem_cons_of_mem _ hx))
theorem cf_sortP : CbF K (rSortP K) cbSortP := fun F H xs ds d Q s rx e q => by
  unfold cbSortP at e
  split at e
  · rename_i es
    obtain ⟨v, rfl, hv⟩ := one_rp rx
    cases z : pairsD es with
    | none => rw [z] at e; cases e
    | some ps =>
      rw [z] at e
      cases e
      have ee := pairsD_eq z
      subst ee
      cases hv with
      | lst h1 h2 =>
        refine ⟨_, _, ps, rfl, SqL.of (s _ _ h1), al_of s h2, fun ys p k hk pm hy np => ?_⟩
        have r := rpA_key (K := K) (F := F) (k := k) (ys := ys) fun x hx => rp_key h2 hk x (pm.mem_iff.mp hx)
        rw [hy] at r
        exact q p _ _ np rfl r
  · cases e
theorem v_sortP {ps : List PI} {Q : D → Prop} (q : Q (.list ((sortP ps).map encI))) : VAL (cbSortP [.list (ps.map encI)]) Q := ⟨_, by show (pairsD (ps.map encI)).map _ = _; rw [pairsD_map]; rfl, q⟩
/-! extend -/
def mExt (j : Nat) (m : ME) : ME := fun ρ => match mu ρ j with
  | some (.list _) => (m ρ).bind fun p => match mu p.2 j, p.1 with
    | some (.list ds), .list es => if ds.length + es.length ≤ 16777216 then .ok (.none, putMu p.2 j (.list (ds ++ es))) else .stuck
    | _, _ => .stuck
  | _ => .stuck
theorem sh_ext {j : Nat} (h : ShE K mg E te m) : ShE K mg E (tBM K "list" rExtend (tVar j) (tCons te tNil)) (mExt j m) := by
  intro Φ F σ H ρ Q W r x g
  unfold mExt at g
  split at g
  · rename_i d0 e0
    obtain ⟨a, ea, _, ow0⟩ := r.mu e0
    refine ⟨_, ea, tyV_own ow0, h Φ F σ H ρ _ W r x ((Good.bind (r := m ρ) g).mono (fun p gp v F1 H1 r1 s1 rv => ?_) fun _ _ _ w => w)⟩
    split at gp
    · rename_i ds es e1 e2
      split at gp
      · rename_i hl
        obtain ⟨a', ea', nF, vs, h1, h2⟩ := r1.mu e1
        rw [ea] at ea'
        cases ea'
        rw [e2] at rv
        cases rv with
        | lst g1 g2 =>
          refine ⟨a, _, vs, _, rfl, rfl, h1, r1.sub _ _ g1, by rw [h2.length, g2.length, sizeLine_eq]; exact hl, ?_⟩
          exact gp _ F1 _ (r1.putMu e1 ea ⟨_, upd_same, h2.append g2⟩) s1 .non
      · exact gp.elim
    · exact gp.elim
  · exact g.elim
def EXT (z a : D) (ρ : Env) (j : Nat) (N : Env → Prop) : Prop := ∃ ds es : List D, z = .list ds ∧ a = .list es ∧ ds.length + es.length ≤ 16777216 ∧ SETS (putMu ρ j (.list (ds ++ es))) N
theorem ext_ {ds es : List D} {ρ : Env} {j : Nat} {N : Env → Prop} (h : ds.length + es.length ≤ 16777216) (q : SETS (putMu ρ j (.list (ds ++ es))) N) : EXT (.list ds) (.list es) ρ j N := ⟨_, _, rfl, rfl, h, q⟩
theorem w_ext {j : Nat} {Q : D → Env → Prop} (q : MU (mu ρ j) fun z => ISL z (Sat (m ρ) fun a ρ1 => MU (mu ρ1 j) fun z => EXT z a ρ1 j fun ρ2 => Q .none ρ2)) : Sat (mExt j m ρ) Q := by
  obtain ⟨_, e0, ⟨xs, rfl⟩, a, ρ1, e1, _, e2, ds, es, rfl, rfl, hl, q⟩ := q
  exact ⟨.none, _, by unfold mExt; rw [e0]; show (m ρ).bind _ = _; rw [e1]; show (match mu ρ1 j, (PyData.list es) with | some (.list ds), .list es => _ | _, _ => _) = _; rw [e2]; show (if ds.length + es.length ≤ 16777216 then _ else _) = _; rw [if_pos hl], q⟩
end
end Mi

set_option Elab.async false
set_option linter.all false
set_option maxRecDepth 100000
namespace Mi
open PySem PySem.Spec PyProof.Rows L2
/-! range of three, upwards -/
def rngC (lo c : Int) (n : Nat) : List D := (List.range n).map fun (i : Nat) => PyData.int (lo + (i : Int) * c)
theorem rngC_get {lo c : Int} {n i : Nat} {d : D} (e : (rngC lo c n)[i]? = some d) : i < n ∧ d = .int (lo + i * c) := by
  unfold rngC at e
  rw [List.getElem?_map] at e
  by_cases h : i < n
  · rw [List.getElem?_range h] at e
    cases e
    exact ⟨h, rfl⟩
  · rw [List.getElem?_eq_none (by rw [List.length_range]; omega)] at e
    cases e
theorem rngC_len (lo c : Int) (n : Nat) : (rngC lo c n).length = n := by unfold rngC; rw [List.length_map, List.length_range]
section
variable {K : PySem.W.Frag} {mg : Str → Option Value} {E : L2.St → XK} {tr : TA} {ms : List ME} {ρ : Env}
theorem walks_rngC (lo c : Int) (n : Nat) (F : Hp) : Walks K (Itc lo c n) F (rngC lo c n) := fun F1 H _ _ i => by
  refine ⟨fun d e => ?_, fun e => ?_⟩
  · obtain ⟨h, rfl⟩ := rngC_get e
    exact ⟨h, fun x H' q => ⟨F1, .inl ⟨rfl, q.1⟩, by rw [q.2]; exact .int _⟩⟩
  · have := List.getElem?_eq_none_iff.mp e
    rw [rngC_len] at this
    exact this
def stepN (i j c : Int) : Nat := (Builtin.Range.rangeSize i j c).toNat
def rOk3 (i j c : Int) : Bool := decide (0 < c) && decide (c < 1073741824) && Builtin.Range.small i j c && decide (0 ≤ Builtin.Range.rangeSize i j c)
def itR3 (ms : List ME) : MA := fun ρ => (mA ms ρ).bind fun p => match p.1 with
  | [.int i, .int j, .int c] => if rOk3 i j c = true then .ok (rngC i c (stepN i j c), p.2) else .stuck
  | _ => .stuck
theorem shi_rng3 (h : ShA K mg E tr ms) : ShI K mg E (iRng3 tr) (itR3 ms) := by
  intro Φ F σ H ρ Rr W r x g
  have g1 := Good.bind (r := mA ms ρ) g
  refine h Φ F σ H ρ _ W r x (g1.mono (fun p gp vs F1 H1 r1 s1 rv el => ?_) fun _ _ _ w => w)
  obtain ⟨ds, ρ'⟩ := p
  dsimp only at gp rv r1
  split at gp
  · rename_i i j c
    cases rv with
    | cons a1 rv =>
      cases rv with
      | cons a2 rv =>
        cases rv with
        | cons a3 rv =>
          cases rv
          cases a1
          cases a2
          cases a3
          split at gp
          · rename_i hn
            unfold rOk3 at hn
            simp only [Bool.and_eq_true, decide_eq_true_eq] at hn
            obtain ⟨⟨⟨h1, h2⟩, h3⟩, h4⟩ := hn
            refine ⟨i, j, c, stepN i j c, rfl, ⟨by omega, by omega, h3, ?_⟩, gp _ F1 H1 r1 s1 (walks_rngC i c _ _)⟩
            unfold stepN
            omega
          · exact gp.elim
  · exact gp.elim
def R3 (ds : List D) (N : List D → Prop) : Prop := ∃ i j c, ds = [.int i, .int j, .int c] ∧ rOk3 i j c = true ∧ N (rngC i c (stepN i j c))
theorem r3_ {i j c : Int} {N : List D → Prop} (h : rOk3 i j c = true) (q : N (rngC i c (stepN i j c))) : R3 [.int i, .int j, .int c] N := ⟨i, j, c, rfl, h, q⟩
theorem w_r3 {QA : List D → Env → Prop} (q : SatA (mA ms ρ) fun ds ρ1 => R3 ds fun xs => QA xs ρ1) : SatA (itR3 ms ρ) QA := by
  obtain ⟨ds, ρ1, e1, i, j, c, rfl, h, q⟩ := q
  exact ⟨_, ρ1, by unfold itR3; rw [e1]; dsimp only [Res.bind]; rw [if_pos h], q⟩
theorem step_eq {i j c : Int} (hc : 0 < c) : Builtin.Range.rangeSize i j c = if i < j then (j - i - 1) / c + 1 else 0 := by
  unfold Builtin.Range.rangeSize
  rw [if_pos hc]
theorem ok3 {i j c : Int} (hc : 0 < c) (hc2 : c < 1073741824) (h1 : -(2 ^ 61) ≤ i) (h2 : i < 2 ^ 61) (h3 : -(2 ^ 61) ≤ j) (h4 : j < 2 ^ 61) : rOk3 i j c = true := by
  have hs := step_eq (i := i) (j := j) hc
  have nn : 0 ≤ Builtin.Range.rangeSize i j c ∧ Builtin.Range.rangeSize i j c ≤ 2 ^ 62 := by
    rw [hs]
    split
    · have a := Int.ediv_nonneg (a := j - i - 1) (b := c) (by omega) (by omega)
      have b := Int.ediv_le_self (a := j - i - 1) c (by omega)
      omega
    · omega
  unfold rOk3
  simp only [Bool.and_eq_true, decide_eq_true_eq]
  refine ⟨⟨⟨hc, hc2⟩, ?_⟩, nn.1⟩
  unfold Builtin.Range.small
  generalize Builtin.Range.rangeSize i j c = s at nn
  simp only [Builtin.Range.rangeFitsLong, Bool.and_eq_true, Bool.or_eq_true, decide_eq_true_eq, beq_iff_eq, show c > 0 from hc, if_true]
  omega
end
end Mi

set_option Elab.async false
set_option linter.all false
set_option maxRecDepth 100000
namespace Mi
open PySem PySem.Spec PyProof.Rows L2
section
variable {K : PySem.W.Frag} {mg : Str → Option Value} {E : L2.St → XK} {te : TE} {tr : TA} {m : ME} {ms : List ME} {ρ : Env} {Q : D → Env → Prop}
/-! list(range(a, b, c)) -/
def tLR3 (ta : TA) : TE := fun σ H Q => ta σ H fun vs H1 => ∃ i j k : Int, vs = [.int i, .int j, .int k] ∧ rOk3 i j k = true ∧ stepN i j k ≤ 16777216 ∧
  ∀ q, H1 q = none → Q (.ref q) (upd H1 q (.lst ((List.range (stepN i j k)).map fun (z : Nat) => V.int (i + (z : Int) * k))))
theorem pe_listR3 {X : Cx} {a b c : Expr} {ta : TA} {p p2 q2 pos : Pos} (hc : X.calm = true) (gl : Gl X "list") (ml : X.mg "list" = none) (gr : Gl X "range") (mr : X.mg "range" = none) (ha : PA X [a, b, c] ta)
    (n1 : starEach [.Call (.Name "range" p2) [a, b, c] [] q2] X.env = (false, eval (.Call (.Name "range" p2) [a, b, c] [] q2) X.env) :: starEach [] X.env := by rfl)
    (n2 : starEach [a, b, c] X.env = (false, eval a X.env) :: starEach [b, c] X.env := by rfl) (n3 : (backTo q2 (starEach [b, c] X.env)).any (·.1) = false := by rfl) :
    PE X (.Call (.Name "list" p) [.Call (.Name "range" p2) [a, b, c] [] q2] [] pos) (tLR3 ta) := by
  refine ⟨fun pins s σ H Q I h => Call_ (ld_blt I gl ml boot_list (PyProof.Rows.callWith_type1 (args_cons ?_ n1) n1))⟩
  refine Call_ (ld_blt I gr mr boot_range (PyProof.Rows.callWith_type1 (thn (ha.run q2 pins s σ H _ I h) fun us s1 ⟨vs, H1, I1, rv, z⟩ => ?_) n2 n3))
  obtain ⟨i, j, k, rfl, ok, room, fin⟩ := z
  cases rv with
  | cons r1 rv =>
    cases rv with
    | cons r2 rv =>
      cases rv with
      | cons r3 rv =>
        cases rv
        obtain ⟨t1, rfl⟩ := r1
        obtain ⟨t2, rfl⟩ := r2
        obtain ⟨t3, rfl⟩ := r3
        unfold rOk3 at ok
        simp only [Bool.and_eq_true, decide_eq_true_eq] at ok
        obtain ⟨⟨⟨o1, o2⟩, o3⟩, o4⟩ := ok
        refine call_range_3 (by omega) ?_ (.inl (PyProof.noPylong_small (by omega)))
        refine args_nil ?_
        have I2 : Inv X pins σ H1 { s1 with heap := s1.heap.push { cls := .type "range", data := .fields #[.int i t1, .int j t2, .int k t3] } } := I1.kept (t' := s1.toks) fun b o e => Heap.get?_push_of_some _ e
        refine call_list_range (n := stepN i j k) (I2.ok.hd hc) (IsRange.new ..) o3 (by unfold stepN; omega) (by omega) fun h' tk acc c' hk e' hi => ?_
        have hv : Vals ((List.range (stepN i j k)).map fun (z : Nat) => V.int (i + (z : Int) * k)) acc.toList := by
          have el : acc.toList.length = stepN i j k := by rw [Array.length_toList]; exact hi.1
          rw [← el]
          refine vals_of_get acc.toList _ fun z u hz => ?_
          obtain ⟨t, rfl⟩ := hi.2 z u (by rw [← hz, Array.getElem?_toList])
          exact ⟨t, rfl⟩
        exact ⟨.ref _, upd H1 _ (.lst _), I2.laid hk (Nat.le_refl _) ⟨by rw [List.length_map, List.length_range, sizeLine_eq]; omega, acc.toList, c', hv, by rw [Array.toArray_toList]; exact e'⟩, rfl, fin _ (I2.hok.fresh (Nat.le_refl _))⟩
def mLR3 (ms : List ME) : ME := fun ρ => (mA ms ρ).bind fun p => match p.1 with
  | [.int i, .int j, .int c] => if (rOk3 i j c && decide (stepN i j c ≤ 16777216)) = true then .ok (.list (rngC i c (stepN i j c)), p.2) else .stuck
  | _ => .stuck
theorem rpA_rngC {F : Hp} (i k : Int) (n : Nat) : RpA K F ((List.range n).map fun (z : Nat) => V.int (i + (z : Int) * k)) (rngC i k n) := by
  unfold rngC
  generalize List.range n = l
  induction l with
  | nil => exact .nil
  | cons a r ih => exact .cons (.int _) ih
theorem shf_lr3 (h : ShA K mg E tr ms) : ShF K mg E (tLR3 tr) (mLR3 ms) := by
  intro Φ F σ H ρ Q W r x g
  have g1 := Good.bind (r := mA ms ρ) g
  refine h Φ F σ H ρ _ W r x (g1.mono (fun p gp vs F1 H1 r1 s1 rv el => ?_) fun _ _ _ w => w)
  obtain ⟨ds, ρ'⟩ := p
  dsimp only at gp rv r1
  split at gp
  · rename_i i j c
    cases rv with
    | cons a1 rv =>
      cases rv with
      | cons a2 rv =>
        cases rv with
        | cons a3 rv =>
          cases rv
          cases a1
          cases a2
          cases a3
          split at gp
          · rename_i hn
            rw [Bool.and_eq_true, decide_eq_true_eq] at hn
            refine ⟨i, j, c, rfl, hn.1, hn.2, fun q hq => ?_⟩
            obtain ⟨r2, nF, n0, ap⟩ := r1.allocO (o := .lst _) hq
            exact gp q _ _ r2 s1 nF n0 ap ⟨_, upd_same, rpA_rngC i c _⟩
          · exact gp.elim
  · exact gp.elim
def LR3 (ds : List D) (N : D → Prop) : Prop := ∃ i j c, ds = [.int i, .int j, .int c] ∧ rOk3 i j c = true ∧ stepN i j c ≤ 16777216 ∧ N (.list (rngC i c (stepN i j c)))
theorem lr3_ {i j c : Int} {N : D → Prop} (h : rOk3 i j c = true) (h2 : stepN i j c ≤ 16777216) (q : N (.list (rngC i c (stepN i j c)))) : LR3 [.int i, .int j, .int c] N := ⟨i, j, c, rfl, h, h2, q⟩
theorem w_lr3 (q : SatA (mA ms ρ) fun ds ρ1 => LR3 ds fun d => Q d ρ1) : Sat (mLR3 ms ρ) Q := by
  obtain ⟨ds, ρ1, e1, i, j, c, rfl, h, h2, q⟩ := q
  exact ⟨_, ρ1, by unfold mLR3; rw [e1]; dsimp only [Res.bind]; rw [if_pos (by rw [h, Bool.true_and]; exact decide_eq_true h2)], q⟩
end
end Mi

set_option Elab.async false
set_option linter.all false
set_option maxRecDepth 100000
namespace Mi
open PySem PySem.Spec PyProof.Rows L2
section
variable {P : Program} {w : World} {A : Around} {E : Value → Shared → Prop} {s : Shared}
abbrev newSet (w : World) : Obj := { cls := .type "set", dict := none, data := .set #[] 0 (.fresh 0 0 (!w.params.followText "set-order")) }
/-- what set.__init__ does to a new set, over a list of ints -/
def Filled (w : World) (ns : List Int) (h0 : Heap) (p : Addr) (h' : Heap) (c : Nat) : Prop := SetR w h' p (fun j => decide (j ∈ ns)) c ∧ c ≤ ns.length ∧ ∀ b o, h0.get? b = some o → h'.get? b = some o
theorem init_set {l p : Addr} {items : Array Value} {ns : List Int} {h0 : Heap} (hh : A.handled = none) (hp : p = h0.objs.size) (es : s.heap = h0.push (newSet w)) (hl : h0.IsList l items) (hi : IntsAre items.toList ns) (hb : ns.length + 1 < scanBound) :
    wpAny (model P w) A.in1 (Builtin.«set.__init__» ⟨[.ref p, .ref l], []⟩) (fun fin s' => match fin with
      | .done f => wants (fun r s₂ => r = .none ∧ ∃ h' tk c, s₂ = { s with heap := h', toks := tk } ∧ Filled w ns h0 p h' c) E (.ok f) s'
      | .again c' => c'.quiet = true ∧ codeAny (model P w) A c' (wants (fun r s₂ => r = .none ∧ ∃ h' tk c, s₂ = { s with heap := h', toks := tk } ∧ Filled w ns h0 p h' c) E) s')
      (fun e s' => wants (fun r s₂ => r = .none ∧ ∃ h' tk c, s₂ = { s with heap := h', toks := tk } ∧ Filled w ns h0 p h' c) E (.error e) s') s := by
  obtain ⟨⟨k0, d0, b0, z0⟩, hol, hc0, n0, hd0⟩ := hl
  simp only at hc0 hd0
  subst hc0 hd0
  have here : s.heap.get? p = some (newSet w) := by rw [es, hp]; exact Heap.get?_push_size _ rfl
  have there : s.heap.get? l = some ⟨.type "list", d0, .seq items n0, z0⟩ := by rw [es]; exact Heap.get?_push_of_some _ hol
  have isl : s.heap.IsList l items := ⟨_, there, rfl, n0, rfl⟩
  have y1 := F.sub_list_set
  have y2 := F.sub_list_frozenset
  have y3 : (Value.type "list" == Value.type "dict") = false := by decide
  have lt : l < h0.objs.size := Heap.lt_size hol
  have sz : s.heap.objs.size = h0.objs.size + 1 := by rw [es]; exact Heap.size_push ..
  have len : items.size = ns.length := by
    have := IntsAre.length hi
    rwa [Array.length_toList] at this
  unfold Builtin.«set.__init__» noKeywords Builtin.Frozenset.updateFrom
  generalize ePI : pyIter = PI
  wp_walk
  subst ePI
  refine wpAny_pyIter_list isl (wpAny_bind (wpAny_runValue ?_))
  have neI : l ≠ s.heap.objs.size := Nat.ne_of_lt (by rw [sz]; exact Nat.lt_succ_of_lt lt)
  have far : p ∉ [s.heap.objs.size, l] := by
    rw [List.mem_cons, List.mem_singleton, not_or]
    exact ⟨by rw [hp, sz]; exact Nat.ne_of_lt (Nat.lt_succ_self _), by rw [hp]; exact Nat.ne_of_gt lt⟩
  refine set_update_ints ((Walks.list (by simp [hh]) _ l neI items).toS) p far ns len hb (fun i v hv => ?_) items.size 0 _ (by omega) (Nat.zero_le _) ⟨⟨_, Heap.get?_push_size _ rfl, rfl, rfl⟩, isl.push _⟩ ⟨0, Nat.le_refl 0, setR_new_at (Heap.get?_push_of_some _ here)⟩ (fun s' c mv hc hR => ?_)
  · have hi' : i < ns.length := by rw [← len]; exact (Array.getElem?_eq_some_iff.mp hv).1
    obtain ⟨t, rfl⟩ := IntsAre.int_at hi i v (by rw [Array.getElem?_toList]; exact hv)
    exact ⟨ns[i], t, List.getElem?_eq_getElem hi', by rw [List.getD_eq_getElem?_getD, List.getElem?_eq_getElem hi']; rfl⟩
  · obtain ⟨h', g', d', tk', os'⟩ := s'
    have eg : g' = s.gens := mv.gens
    have ed : d' = s.drawn := mv.drawn
    have eo : os' = s.os := mv.os
    subst eg ed eo
    show wpAny _ _ _ _ _ _
    refine wpAny_pure ?_
    show wpAny _ _ (PySem.ret Value.none) _ _ _
    refine wpAny_pure ⟨rfl, h', tk', c, rfl, hR, by omega, fun b o e => ?_⟩
    have lb := Heap.lt_size e
    have e2 : s.heap.get? b = some o := by rw [es]; exact Heap.get?_push_of_some _ e
    refine mv.heap b o ?_ (Heap.get?_push_of_some _ e2)
    rw [List.mem_cons, List.mem_singleton, not_or]
    exact ⟨by rw [hp]; exact Nat.ne_of_lt lb, by rw [sz]; exact Nat.ne_of_lt (Nat.lt_succ_of_lt lb)⟩
theorem call_set_ints {l : Addr} {items : Array Value} {ns : List Int} {Q : Value → Shared → Prop} (hh : A.handled = none) (hl : s.heap.IsList l items) (hi : IntsAre items.toList ns) (hb : ns.length + 1 < scanBound)
    (q : ∀ (h' : Heap) (tk c : Nat), Filled w ns s.heap s.heap.objs.size h' c → Q (.ref s.heap.objs.size) { s with heap := h', toks := tk }) : wpAny (model P w) A (call (.type "set") [.ref l]) Q E s := by
  have made := F.called_set.made
  have subs := F.called_set.sub
  obtain ⟨cc, tl, mro⟩ := F.called_set.mro
  refine wpAny_call (codeAny_of_tree ?_)
  show wpAny _ _ (callAny (.type "set") _) _ _ _
  refine wpAny_pure ⟨Code.quiet_builtin _ (by decide +kernel), codeAny_builtin F.entry_type_call ?_⟩
  rw [Around.under_plain (weight_type_call_type "set" [.ref l] []) rfl]
  have g1 := F.called_set.notType
  have g2 := F.called_set.canCreate
  have g3 := F.typeCall_set_1 (.ref l)
  repeat (any_goals (first | assumption | wp_step))
  refine codeAny_mono (code_set_led1 (.ref l) (E := E) (Q₁ := fun obj t => obj = .ref s.heap.objs.size ∧ t = { s with heap := s.heap.push (newSet w) }) ⟨rfl, rfl⟩) fun r t ht => ?_
  match r, ht with
  | .error e, ht => exact ht
  | .ok (.ret obj), ht =>
    obtain ⟨rfl, rfl⟩ := ht
    have new : (s.heap.push (newSet w)).get? s.heap.objs.size = some (newSet w) := Heap.get?_push_size _ rfl
    have isS : Shared.TypeIs { s with heap := s.heap.push (newSet w) } (.ref s.heap.objs.size) "set" := ⟨_, new, rfl⟩
    have g4 := F.called_set.init.lookup
    have g5 := F.called_set.init.bind (.ref s.heap.objs.size)
    repeat (any_goals (first | assumption | wp_step))
    refine codeAny_mono (codeAny_call_builtin (R := wants (fun r u => r = .none ∧ ∃ h' tk c, u = { s with heap := h', toks := tk } ∧ Filled w ns s.heap s.heap.objs.size h' c) E) F.called_set.init.plain F.entry_set_init (check_set_init_1 isS ?_)) fun r u hu => ?_
    · refine init_set (s := { s with heap := s.heap.push (newSet w) }) ?_ rfl rfl hl hi hb
      first | exact hh | simp [hh]
    · match r, hu with
      | .error e, hu => exact hu
      | .ok (.ret r), hu =>
        obtain ⟨rfl, h', tk, c, rfl, hf⟩ := hu
        repeat (any_goals (first | assumption | wp_step))
        exact q h' tk c hf
end
/-! the ints of a list, each once, in order -/
def insU (x : Int) : List Int → List Int
  | [] => [x]
  | y :: ys => if x < y then x :: y :: ys else if x = y then y :: ys else y :: insU x ys
def ssI (ns : List Int) : List Int := ns.foldr insU []
theorem mem_insU {x z : Int} : ∀ {ys : List Int}, z ∈ insU x ys ↔ z = x ∨ z ∈ ys
  | [] => by simp [insU]
  | y :: ys => by
    unfold insU
    split
    · simp
    · split
      · rename_i e
        subst e
        simp
      · rw [List.mem_cons, mem_insU, List.mem_cons]
        constructor
        · rintro (h | h | h) <;> simp [h]
        · rintro (h | h | h) <;> simp [h]
theorem insU_pw {x : Int} : ∀ {ys : List Int}, ys.Pairwise (· < ·) → (insU x ys).Pairwise (· < ·)
  | [], _ => List.pairwise_singleton ..
  | y :: ys, h => by
    obtain ⟨h1, h2⟩ := List.pairwise_cons.mp h
    unfold insU
    split
    · refine List.pairwise_cons.mpr ⟨fun z hz => ?_, h⟩
      rcases List.mem_cons.mp hz with rfl | hz
      · assumption
      · have := h1 z hz
        omega
    · split
      · exact h
      · refine List.pairwise_cons.mpr ⟨fun z hz => ?_, insU_pw h2⟩
        rcases mem_insU.mp hz with rfl | hz
        · omega
        · exact h1 z hz
theorem insU_len {x : Int} : ∀ {ys : List Int}, (insU x ys).length ≤ ys.length + 1
  | [] => by simp [insU]
  | y :: ys => by
    have := insU_len (x := x) (ys := ys)
    unfold insU
    split
    · simp
    · split
      · simp
      · simp; omega
theorem ssI_pw : ∀ ns : List Int, (ssI ns).Pairwise (· < ·)
  | [] => .nil
  | n :: ns => insU_pw (ssI_pw ns)
theorem mem_ssI {z : Int} : ∀ {ns : List Int}, z ∈ ssI ns ↔ z ∈ ns
  | [] => Iff.rfl
  | n :: ns => by
    show z ∈ insU n (ssI ns) ↔ _
    rw [mem_insU, mem_ssI, List.mem_cons]
theorem ssI_len : ∀ ns : List Int, (ssI ns).length ≤ ns.length
  | [] => Nat.le_refl 0
  | n :: ns => by
    have a := insU_len (x := n) (ys := ssI ns)
    have b := ssI_len ns
    show (insU n (ssI ns)).length ≤ _
    rw [List.length_cons]
    omega
section
variable {K : PySem.W.Frag} {mg : Str → Option Value} {E : L2.St → XK} {te : TE} {m : ME} {ρ : Env} {Q : D → Env → Prop} {w : World}
/-- set(xs), xs a list of ints -/
def rSetI (K : PySem.W.Frag) (w : World) : List V → Hp → VK → Prop := fun xs H Q => ∃ (l : Addr) (ns : List Int), xs = [V.ref l] ∧ SqL K H l (ns.map V.int) ∧ ns.length < 1000 ∧ ∀ (p : Addr) (c : Nat), H p = none → c ≤ ns.length → Q (.ref p) (upd H p (SetO w p (fun j => decide (j ∈ ns)) c))
theorem cr_setI {X : Cx} (hc : X.calm = true) : CallR X (.type "set") (rSetI X.K X.w) := by
  intro pins s σ H vs us Q I r h
  obtain ⟨l, ns, rfl, hl, hn, q⟩ := h
  obtain ⟨its, rv, pl, hz⟩ := I.list hl
  rw [Vals.ref1 r]
  refine call_set_ints (ns := ns) (I.ok.hd hc) pl.isList (by simpa using rv.ints) (by unfold scanBound; omega) fun h' tk c hf => ?_
  obtain ⟨hR, hc, hk⟩ := hf
  exact ⟨.ref s.heap.objs.size, upd H s.heap.objs.size (SetO X.w s.heap.objs.size (fun j => decide (j ∈ ns)) c), I.laid (t' := tk) hk (Nat.le_refl _) (setO_new hR), rfl, q _ c (I.hok.fresh (Nat.le_refl _)) hc⟩
/-- sorted(set(xs)) -/
def mSS (m : ME) : ME := fun ρ => (m ρ).bind fun p => match p.1 with
  | .list ds => match intsD ds with
    | some ns => if ns.length < 64 then .ok (.list ((ssI ns).map .int), p.2) else .stuck
    | none => .stuck
  | _ => .stuck
theorem shf_ss (h : ShE K mg E te m) : ShF K mg E (tCB (rSortedSet w) (tCons (tCB (rSetI K w) (tCons te tNil)) tNil)) (mSS m) := by
  intro Φ F σ H ρ Q W r x g
  have g1 := Good.bind (r := m ρ) g
  refine h Φ F σ H ρ _ W r x (g1.mono (fun p gp v F1 H1 r1 s1 rv => ?_) fun _ _ _ w => w)
  obtain ⟨d, ρ'⟩ := p
  dsimp only at gp rv r1
  split at gp
  · rename_i ds
    cases e : intsD ds with
    | none => rw [e] at gp; exact gp.elim
    | some ns =>
      rw [e] at gp
      dsimp only at gp
      split at gp
      · rename_i hl
        cases rv with
        | lst h1 h2 =>
          refine ⟨_, ns, rfl, by rw [← h2.ints (intsD_eq e)]; exact SqL.of (r1.sub _ _ h1), by omega, fun p c hp hc => ?_⟩
          obtain ⟨r2, s2⟩ := r1.alloc (o := SetO w p (fun j => decide (j ∈ ns)) c) hp
          refine ⟨p, _, c, rfl, upd_same, by omega, fun ns' q hpw hmem hlen hq => ?_⟩
          have : ns' = ssI ns := asc_ext hpw (ssI_pw ns) fun z => by rw [hmem, mem_ssI]; exact decide_eq_true_iff
          subst this
          obtain ⟨r3, nF, n0, ap⟩ := r2.allocO (o := .lst ((ssI ns).map V.int)) hq
          exact gp q _ _ r3 (s1.trans s2) nF n0 ap ⟨_, upd_same, RpA.ofInts _⟩
      · exact gp.elim
  · exact gp.elim
def SS (d : D) (N : D → Prop) : Prop := ∃ ns : List Int, d = .list (ns.map .int) ∧ ns.length < 64 ∧ N (.list ((ssI ns).map .int))
theorem ss_ {ns : List Int} {N : D → Prop} (h : ns.length < 64) (q : N (.list ((ssI ns).map .int))) : SS (.list (ns.map .int)) N := ⟨ns, rfl, h, q⟩
theorem w_ss (q : Sat (m ρ) fun d ρ1 => SS d fun z => Q z ρ1) : Sat (mSS m ρ) Q := by
  obtain ⟨d, ρ1, e1, ns, rfl, h, q⟩ := q
  exact ⟨_, ρ1, by unfold mSS; rw [e1]; dsimp only [Res.bind]; rw [intsD_map]; dsimp only; rw [if_pos h], q⟩
end
end Mi

set_option Elab.async false
set_option linter.all false
set_option maxRecDepth 100000
namespace Mi
open PySem PySem.Spec PyProof.Rows L2
section
variable {K : PySem.W.Frag} {mg : Str → Option Value} {E : L2.St → XK} {te : TE} {tr : TA} {m : ME} {ms : List ME} {ρ : Env} {Q : D → Env → Prop} {QA : List D → Env → Prop}
/-! enumerate -/
def enD : Nat → List D → List D
  | _, [] => []
  | n, x :: xs => .tuple [.int n, x] :: enD (n + 1) xs
theorem enD_get : ∀ {n : Nat} {xs : List D} {i : Nat} {d : D}, (enD n xs)[i]? = some d → ∃ x, xs[i]? = some x ∧ d = .tuple [.int ((n + i : Nat) : Int), x]
  | _, [], _, _, e => by simp [enD] at e
  | n, x :: xs, 0, d, e => by simp [enD] at e; exact ⟨x, rfl, by rw [← e]; simp⟩
  | n, x :: xs, i + 1, d, e => by
    obtain ⟨y, h1, h2⟩ := enD_get (n := n + 1) (xs := xs) (i := i) (d := d) (by simpa [enD] using e)
    exact ⟨y, by simpa using h1, by rw [h2, show n + 1 + i = n + (i + 1) by omega]⟩
theorem enD_len : ∀ {n : Nat} {xs : List D}, (enD n xs).length = xs.length
  | _, [] => rfl
  | n, x :: xs => by show (enD (n + 1) xs).length + 1 = xs.length + 1; rw [enD_len]
theorem enD_map {α : Type} (f : α → D) : ∀ (n : Nat) (xs : List α), enD n (xs.map f) = (xs.zipIdx n).map fun p => .tuple [.int p.2, f p.1]
  | _, [] => rfl
  | n, x :: xs => by
    rw [List.zipIdx_cons, List.map_cons, List.map_cons]
    show _ :: enD (n + 1) (xs.map f) = _
    rw [enD_map f (n + 1) xs]
def itE (ms : List ME) : MA := fun ρ => (mA ms ρ).bind fun p => match p.1 with
  | [.list xs] => .ok (enD 0 xs, p.2)
  | _ => .stuck
theorem walks_enum {F : Hp} {a : Addr} {xs : List V} {ds : List D} (h1 : SqL K F a xs) (r1 : RpA K F xs ds) : Walks K (Ite K a) F (enD 0 ds) := fun F1 H sa sb i => by
  refine ⟨fun d e => ?_, fun e => ?_⟩
  · obtain ⟨x, e1, rfl⟩ := enD_get e
    obtain ⟨v, q1, q2⟩ := r1.get' e1
    refine ⟨⟨xs, v, sb.seq (sa.seq h1), q1⟩, fun z H' q => ?_⟩
    obtain ⟨T, x', rfl, nT, rfl, g1⟩ := q
    have e3 := g1 xs (sb.seq (sa.seq h1))
    rw [q1] at e3
    cases e3
    have sT : Same F1 (upd F1 T (.tup [.int ((i : Nat) : Int), v])) := sub_upd (sb.free nT)
    refine ⟨_, .inr ⟨T, _, nT, rfl, rfl⟩, .tup (SqT.of upd_same) (.cons ?_ (.cons (q2.mono (sa.trans sT)) .nil))⟩
    rw [Nat.zero_add]
    exact .int _
  · have := List.getElem?_eq_none_iff.mp e
    rw [enD_len] at this
    exact ⟨xs, sb.seq (sa.seq h1), by rw [r1.length]; exact this⟩
theorem shi_enum (h : ShA K mg E tr ms) : ShI K mg E (iEnum K tr) (itE ms) := by
  intro Φ F σ H ρ Rr W r x g
  have g1 := Good.bind (r := mA ms ρ) g
  refine h Φ F σ H ρ _ W r x (g1.mono (fun p gp vs F1 H1 r1 s1 rv el => ?_) fun _ _ _ w => w)
  obtain ⟨ds, ρ'⟩ := p
  dsimp only at gp rv r1
  split at gp
  · obtain ⟨v, rfl, hv⟩ := one_rp rv
    cases hv with
    | lst h1 h2 => exact ⟨_, _, rfl, SqL.of (r1.sub _ _ h1), gp _ F1 H1 r1 s1 (walks_enum (SqL.of h1) h2)⟩
  · exact gp.elim
def EN (ds : List D) (N : List D → Prop) : Prop := ∃ xs, ds = [.list xs] ∧ N (enD 0 xs)
theorem en_ {xs : List D} {N : List D → Prop} (q : N (enD 0 xs)) : EN [.list xs] N := ⟨xs, rfl, q⟩
theorem w_enum (q : SatA (mA ms ρ) fun ds ρ1 => EN ds fun xs => QA xs ρ1) : SatA (itE ms ρ) QA := by
  obtain ⟨ds, ρ1, e1, xs, rfl, q⟩ := q
  exact ⟨_, ρ1, by unfold itE; rw [e1]; rfl, q⟩
/-! own.pop(i) -/
def mPopAt (j : Nat) (m : ME) : ME := fun ρ => match mu ρ j with
  | some (.list _) => (m ρ).bind fun p => match mu p.2 j, p.1 with
    | some (.list ds), .int i => if 0 ≤ i ∧ i < 1000000000 then (match ds[i.toNat]? with
      | some y => .ok (y, putMu p.2 j (.list (ds.eraseIdx i.toNat)))
      | none => .stuck) else .stuck
    | _, _ => .stuck
  | _ => .stuck
theorem RpA.erase {F : Hp} : ∀ {vs : List V} {ds : List D} (k : Nat), RpA K F vs ds → RpA K F (vs.eraseIdx k) (ds.eraseIdx k)
  | _, _, _, .nil => .nil
  | _, _, 0, .cons _ r => r
  | _, _, k + 1, .cons h r => .cons h (RpA.erase k r)
theorem sh_popAt {j : Nat} (h : ShE K mg E te m) : ShE K mg E (tBM K "list" rPopAt (tVar j) (tCons te tNil)) (mPopAt j m) := by
  intro Φ F σ H ρ Q W r x g
  unfold mPopAt at g
  split at g
  · rename_i d0 e0
    obtain ⟨a, ea, _, ow0⟩ := r.mu e0
    refine ⟨_, ea, tyV_own ow0, h Φ F σ H ρ _ W r x ((Good.bind (r := m ρ) g).mono (fun p gp v F1 H1 r1 s1 rv => ?_) fun _ _ _ w => w)⟩
    split at gp
    · rename_i ds i e1 e2
      split at gp
      · rename_i hl
        split at gp
        · rename_i y ey
          obtain ⟨a', ea', nF, vs, h1, h2⟩ := r1.mu e1
          rw [ea] at ea'
          cases ea'
          rw [e2] at rv
          cases rv
          obtain ⟨u, eu, ru⟩ := h2.get' ey
          have hk := (List.getElem?_eq_some_iff.mp eu).1
          have sx : seqIndex? i vs.length = some i.toNat := by
            unfold seqIndex?
            simp only [show ¬ i < 0 by omega, if_false]
            have : (decide (0 ≤ i) && decide (i < (vs.length : Int))) = true := by
              rw [Bool.and_eq_true, decide_eq_true_eq, decide_eq_true_eq]
              omega
            rw [if_pos this]
          refine ⟨a, vs, i, i.toNat, u, rfl, rfl, h1, by omega, by omega, sx, eu, ?_⟩
          exact gp _ F1 _ (r1.putMu e1 ea ⟨_, upd_same, h2.erase _⟩) s1 ru
        · exact gp.elim
      · exact gp.elim
    · exact gp.elim
  · exact g.elim
def POPA (z a : D) (ρ : Env) (j : Nat) (N : D → Env → Prop) : Prop := ∃ (ds : List D) (i : Int) (y : D), z = .list ds ∧ a = .int i ∧ (0 ≤ i ∧ i < 1000000000) ∧ ds[i.toNat]? = some y ∧ SETS (putMu ρ j (.list (ds.eraseIdx i.toNat))) (N y)
theorem popa_ {ds : List D} {i : Int} {y : D} {ρ : Env} {j : Nat} {N : D → Env → Prop} (h : 0 ≤ i ∧ i < 1000000000) (e : ds[i.toNat]? = some y) (q : SETS (putMu ρ j (.list (ds.eraseIdx i.toNat))) (N y)) : POPA (.list ds) (.int i) ρ j N := ⟨_, _, y, rfl, rfl, h, e, q⟩
theorem w_popAt {j : Nat} (q : MU (mu ρ j) fun z => ISL z (Sat (m ρ) fun a ρ1 => MU (mu ρ1 j) fun z => POPA z a ρ1 j Q)) : Sat (mPopAt j m ρ) Q := by
  obtain ⟨_, e0, ⟨xs, rfl⟩, a, ρ1, e1, _, e2, ds, i, y, rfl, rfl, hl, ey, q⟩ := q
  exact ⟨y, _, by unfold mPopAt; rw [e0]; show (m ρ).bind _ = _; rw [e1]; show (match mu ρ1 j, (PyData.int i) with | some (.list ds), .int i => _ | _, _ => _) = _; rw [e2]; show (if 0 ≤ i ∧ i < 1000000000 then _ else _) = _; rw [if_pos hl, ey], q⟩
end
theorem enD_at : ∀ {n : Nat} {xs : List D} {i : Nat} {x : D}, xs[i]? = some x → (enD n xs)[i]? = some (.tuple [.int ((n + i : Nat) : Int), x])
  | _, [], _, _, e => by simp at e
  | n, y :: xs, 0, x, e => by simp at e; subst e; simp [enD]
  | n, y :: xs, i + 1, x, e => by
    have := enD_at (n := n + 1) (xs := xs) (i := i) (x := x) (by simpa using e)
    rw [show n + 1 + i = n + (i + 1) by omega] at this
    simpa [enD] using this
theorem enD_rng {α : Type} (f : α → D) (d : α) (xs : List α) : enD 0 (xs.map f) = (rngI 0 xs.length).map fun k => .tuple [.int k, f (xs.getD k.toNat d)] := by
  apply List.ext_getElem?
  intro i
  by_cases h : i < xs.length
  · rw [enD_at (x := f (xs.getD i d)) (by rw [List.getElem?_map, List.getElem?_eq_getElem h, List.getD_eq_getElem?_getD, List.getElem?_eq_getElem h]; rfl), List.getElem?_map, rngI_get h]
    dsimp only [Option.map]
    rw [show (0 + (i : Int)).toNat = i by omega, Nat.zero_add, Int.zero_add]
  · rw [List.getElem?_eq_none (by rw [enD_len, List.length_map]; omega), List.getElem?_eq_none (by rw [List.length_map, rngI_len]; omega)]
theorem zipD_at : ∀ {xs ys : List D} {i : Nat} {x y : D}, xs[i]? = some x → ys[i]? = some y → (zipD xs ys)[i]? = some (.tuple [x, y])
  | [], _, _, _, _, e, _ => by simp at e
  | _ :: _, [], _, _, _, _, e => by simp at e
  | a :: xs, b :: ys, 0, x, y, e, g => by simp at e g; subst e g; simp [zipD]
  | a :: xs, b :: ys, i + 1, x, y, e, g => by simpa [zipD] using zipD_at (xs := xs) (ys := ys) (i := i) (by simpa using e) (by simpa using g)
theorem zipD_rng {α : Type} (f : α → D) (d : α) (xs : List α) : zipD (xs.map f) ((xs.map f).drop 1) = (rngI 0 (xs.length - 1)).map fun k => .tuple [f (xs.getD k.toNat d), f (xs.getD (k.toNat + 1) d)] := by
  apply List.ext_getElem?
  intro i
  have e : ∀ j, j < xs.length → (xs.map f)[j]? = some (f (xs.getD j d)) := fun j h => by rw [List.getElem?_map, List.getElem?_eq_getElem h, List.getD_eq_getElem?_getD, List.getElem?_eq_getElem h]; rfl
  by_cases h : i < xs.length - 1
  · rw [zipD_at (e i (by omega)) (by rw [List.getElem?_drop, Nat.add_comm 1 i]; exact e (i + 1) (by omega)), List.getElem?_map, rngI_get h]
    dsimp only [Option.map]
    rw [show (0 + (i : Int)).toNat = i by omega]
  · cases z : (zipD (xs.map f) ((xs.map f).drop 1))[i]? with
    | none => rw [List.getElem?_eq_none (by rw [List.length_map, rngI_len]; omega)]
    | some d' =>
      obtain ⟨x, y, _, e2, _⟩ := zipD_get z
      have := (List.getElem?_eq_some_iff.mp e2).1
      rw [List.length_drop, List.length_map] at this
      omega
theorem cut_from1 (xs : List D) : cutD xs (some 1) none = xs.drop 1 := by
  unfold cutD
  rw [show HT.sIx xs.length 0 (some 1) = min 1 xs.length from HT.sIx_nat _ 0 1, HT.sIx_none]
  cases xs with
  | nil => rfl
  | cons x xs =>
    rw [List.length_cons, show min 1 (xs.length + 1) = 1 by omega]
    apply List.take_of_length_le
    rw [List.length_drop, List.length_cons]
    omega
end Mi

set_option Elab.async false
set_option linter.all false
set_option maxRecDepth 100000
namespace Mi
open PySem PySem.Spec PyProof.Rows L2
section
variable {K : PySem.W.Frag} {mg : Str → Option Value} {E : L2.St → XK} {te : TE} {tr : TA} {m : ME} {ms : List ME} {ρ : Env} {Q : D → Env → Prop} {QA : List D → Env → Prop}
/-! own.pop() -/
def mPop (j : Nat) : ME := fun ρ => match mu ρ j with
  | some (.list ds) => (match ds[ds.length - 1]? with
    | some y => .ok (y, putMu ρ j (.list ds.dropLast))
    | none => .stuck)
  | _ => .stuck
theorem RpA.last {F : Hp} : ∀ {vs : List V} {ds : List D}, RpA K F vs ds → RpA K F vs.dropLast ds.dropLast
  | _, _, .nil => .nil
  | _, _, .cons _ .nil => .nil
  | _, _, .cons h (.cons h2 r) => .cons h (RpA.last (.cons h2 r))
theorem sh_pop {j : Nat} : ShE K mg E (tBM0 K "list" rPop (tVar j)) (mPop j) := by
  intro Φ F σ H ρ Q W r x g
  unfold mPop at g
  split at g
  · rename_i ds e0
    split at g
    · rename_i y ey
      obtain ⟨a, ea, nF, ow0⟩ := r.mu e0
      refine ⟨_, ea, tyV_own ow0, ?_⟩
      obtain ⟨vs, h1, h2⟩ := ow0
      obtain ⟨u, eu, ru⟩ := h2.get' ey
      refine ⟨a, vs, u, rfl, rfl, h1, by rw [h2.length]; exact eu, ?_⟩
      exact g _ F _ (r.putMu e0 ea ⟨_, upd_same, h2.last⟩) (.refl _) ru
    · exact g.elim
  · exact g.elim
def POPL (z : D) (ρ : Env) (j : Nat) (N : D → Env → Prop) : Prop := ∃ (ds : List D) (y : D), z = .list (ds ++ [y]) ∧ SETS (putMu ρ j (.list ds)) (N y)
theorem popl_ {ds : List D} {y : D} {ρ : Env} {j : Nat} {N : D → Env → Prop} (q : SETS (putMu ρ j (.list ds)) (N y)) : POPL (.list (ds ++ [y])) ρ j N := ⟨ds, y, rfl, q⟩
theorem w_pop {j : Nat} (q : MU (mu ρ j) fun z => POPL z ρ j Q) : Sat (mPop j ρ) Q := by
  obtain ⟨_, e0, ds, y, rfl, q⟩ := q
  exact ⟨y, _, by unfold mPop; rw [e0]; show (match (ds ++ [y])[(ds ++ [y]).length - 1]? with | some y' => _ | none => _) = _; rw [show (ds ++ [y])[(ds ++ [y]).length - 1]? = some y by simp]; rw [show (ds ++ [y]).dropLast = ds by simp], q⟩
end
end Mi

set_option Elab.async false
set_option linter.all false
set_option maxRecDepth 100000
namespace Mi
open PySem PySem.Spec PyProof.Rows L2
theorem insU_nodup_len {x : Int} : ∀ {ys : List Int}, x ∉ ys → (insU x ys).length = ys.length + 1
  | [], _ => rfl
  | y :: ys, h => by
    unfold insU
    have a : x ≠ y := fun e => h (by rw [e]; exact List.mem_cons_self ..)
    have b : x ∉ ys := fun e => h (List.mem_cons_of_mem _ e)
    split
    · rfl
    · first | rw [if_neg a, List.length_cons, insU_nodup_len b, List.length_cons] | rw [List.length_cons, insU_nodup_len b, List.length_cons]
theorem ssI_nodup_len : ∀ {ns : List Int}, ns.Nodup → (ssI ns).length = ns.length
  | [], _ => rfl
  | n :: ns, h => by
    obtain ⟨a, b⟩ := List.nodup_cons.mp h
    show (insU n (ssI ns)).length = _
    rw [insU_nodup_len (fun e => a (mem_ssI.mp e)), ssI_nodup_len b, List.length_cons]
theorem setR_card {w : World} {h : Heap} {a : Addr} {ns : List Int} {c : Nat} (R : SetR w h a (fun j => decide (j ∈ ns)) c) : c = (ssI ns).length := by
  obtain ⟨o, es, ep, t, ho, hex, hd, g, nd, hm, hb, hf, hn, _⟩ := R
  have : ssI (es.toList.map keyOf) = ssI ns := asc_ext (ssI_pw _) (ssI_pw _) fun z => by
    rw [mem_ssI, mem_ssI, ← hm z]
    exact decide_eq_true_iff
  rw [← this, ssI_nodup_len nd, List.length_map, Array.length_toList]
  exact hn.symm
section
variable {K : PySem.W.Frag} {mg : Str → Option Value} {E : L2.St → XK} {te : TE} {m : ME} {ρ : Env} {Q : D → Env → Prop} {w : World}
def rSetJ (K : PySem.W.Frag) (w : World) : List V → Hp → VK → Prop := fun xs H Q => ∃ (l : Addr) (ns : List Int), xs = [V.ref l] ∧ SqL K H l (ns.map V.int) ∧ ns.length < 1000 ∧ ∀ (p : Addr) (c : Nat), H p = none → c = (ssI ns).length → Q (.ref p) (upd H p (SetO w p (fun j => decide (j ∈ ns)) c))
theorem cr_setJ {X : Cx} (hc : X.calm = true) : CallR X (.type "set") (rSetJ X.K X.w) := by
  intro pins s σ H vs us Q I r h
  obtain ⟨l, ns, rfl, hl, hn, q⟩ := h
  obtain ⟨its, rv, pl, hz⟩ := I.list hl
  rw [Vals.ref1 r]
  refine call_set_ints (ns := ns) (I.ok.hd hc) pl.isList (by simpa using rv.ints) (by unfold scanBound; omega) fun h' tk c hf => ?_
  obtain ⟨hR, hc, hk⟩ := hf
  exact ⟨.ref s.heap.objs.size, upd H s.heap.objs.size (SetO X.w s.heap.objs.size (fun j => decide (j ∈ ns)) c), I.laid (t' := tk) hk (Nat.le_refl _) (setO_new hR), rfl, q _ c (I.hok.fresh (Nat.le_refl _)) (setR_card hR)⟩
/-- sorted(set(xs)), any number of ints, fewer than 64 different ones -/
def mSJ (m : ME) : ME := fun ρ => (m ρ).bind fun p => match p.1 with
  | .list ds => match intsD ds with
    | some ns => if (ssI ns).length < 64 ∧ ns.length < 1000 then .ok (.list ((ssI ns).map .int), p.2) else .stuck
    | none => .stuck
  | _ => .stuck
theorem shf_sj (h : ShE K mg E te m) : ShF K mg E (tCB (rSortedSet w) (tCons (tCB (rSetJ K w) (tCons te tNil)) tNil)) (mSJ m) := by
  intro Φ F σ H ρ Q W r x g
  have g1 := Good.bind (r := m ρ) g
  refine h Φ F σ H ρ _ W r x (g1.mono (fun p gp v F1 H1 r1 s1 rv => ?_) fun _ _ _ w => w)
  obtain ⟨d, ρ'⟩ := p
  dsimp only at gp rv r1
  split at gp
  · rename_i ds
    cases e : intsD ds with
    | none => rw [e] at gp; exact gp.elim
    | some ns =>
      rw [e] at gp
      dsimp only at gp
      split at gp
      · rename_i hl
        cases rv with
        | lst h1 h2 =>
          refine ⟨_, ns, rfl, by rw [← h2.ints (intsD_eq e)]; exact SqL.of (r1.sub _ _ h1), by omega, fun p c hp hc => ?_⟩
          obtain ⟨r2, s2⟩ := r1.alloc (o := SetO w p (fun j => decide (j ∈ ns)) c) hp
          refine ⟨p, _, c, rfl, upd_same, by omega, fun ns' q hpw hmem hlen hq => ?_⟩
          have : ns' = ssI ns := asc_ext hpw (ssI_pw ns) fun z => by rw [hmem, mem_ssI]; exact decide_eq_true_iff
          subst this
          obtain ⟨r3, nF, n0, ap⟩ := r2.allocO (o := .lst ((ssI ns).map V.int)) hq
          exact gp q _ _ r3 (s1.trans s2) nF n0 ap ⟨_, upd_same, RpA.ofInts _⟩
      · exact gp.elim
  · exact gp.elim
def SJ (d : D) (N : D → Prop) : Prop := ∃ ns : List Int, d = .list (ns.map .int) ∧ ((ssI ns).length < 64 ∧ ns.length < 1000) ∧ N (.list ((ssI ns).map .int))
theorem sj_ {ns : List Int} {N : D → Prop} (h : (ssI ns).length < 64 ∧ ns.length < 1000) (q : N (.list ((ssI ns).map .int))) : SJ (.list (ns.map .int)) N := ⟨ns, rfl, h, q⟩
theorem w_sj (q : Sat (m ρ) fun d ρ1 => SJ d fun z => Q z ρ1) : Sat (mSJ m ρ) Q := by
  obtain ⟨d, ρ1, e1, ns, rfl, h, q⟩ := q
  exact ⟨_, ρ1, by unfold mSJ; rw [e1]; dsimp only [Res.bind]; rw [intsD_map]; dsimp only; rw [if_pos h], q⟩
end
end Mi

set_option Elab.async false
set_option linter.all false
set_option maxRecDepth 100000
/-! a def that calls itself; x in d; sorted(d) -/
namespace Rd
open PySem PySem.Spec PyProof.Rows L2
theorem neverX {P : Program} {w : World} {K : PySem.W.Frag} {mg : Str → Option Value} {base : Heap} {CX : CXT} {k : Nat} {f : Addr} {fd : FuncData} {ps : List Str} : FnOk P w K mg base CX k f fd ps (fun _ _ _ _ => False) := ⟨fun _ _ _ _ h => h.elim, fun _ _ _ _ _ _ _ _ _ _ _ _ _ h => h.elim⟩
end Rd
namespace Mi
open PySem PySem.Spec PyProof.Rows L2
section
variable {K : PySem.W.Frag} {mg : Str → Option Value}
theorem absurd_stP {n : Nat} {vs : List V} {H : Hp} {Q : VK} {E : XK} (h : spP K mg n (fun _ => .stuck) vs H Q E) : False := by
  obtain ⟨_, F, ds, _, _, g⟩ := h
  exact g
theorem absurd_stI {n : Nat} {vs : List V} {H : Hp} {Q : VK} {E : XK} (h : spI K n (fun _ _ => .stuck) vs H Q E) : False := by
  obtain ⟨_, F, a, d0, us, ds, _, _, _, _, _, g⟩ := h
  exact g
end
/-! x in d, of a dict that is fixed -/
def fDIn (neg : Bool) (x d : D) : Option D := if isDic d = true then match d with
  | .dict kds => (keyD x).map fun k => .bool ((valD kds k).isSome ^^ neg)
  | _ => none else none
section
variable {K : PySem.W.Frag} {mg : Str → Option Value} {E : L2.St → XK} {te ty td : TE} {m mk md : ME} {ρ : Env}
theorem fDIn_ok {neg : Bool} {F H : Hp} {x y : V} {dx dy d : D} (s : Same F H) (rx : Rp K F x dx) (ry : Rp K F y dy) (e : fDIn neg dx dy = some d) : ∃ a o, y = .ref a ∧ DGet H a x o ∧ d = .bool (o.isSome ^^ neg) := by
  unfold fDIn at e
  split at e
  · rename_i hi
    cases ry with
    | dic h1 h2 =>
      rename_i a kvs ds
      have e : ((keyD dx).map fun k => PyData.bool ((valD ds k).isSome ^^ neg)) = some d := e
      cases ek : keyD dx with
      | none => rw [ek] at e; cases e
      | some k =>
        rw [ek] at e
        cases e
        obtain ⟨rfl, _⟩ := keyD_ok rx ek
        refine ⟨a, valV kvs k, rfl, DGet.k (s _ _ h1), ?_⟩
        rcases valD_ok (k := k) h2 with ⟨g1, g2⟩ | ⟨v, d, g1, g2, g3⟩
        · rw [g1]; show PyData.bool ((valD ds k).isSome ^^ neg) = _; rw [g2]; rfl
        · rw [g1]; show PyData.bool ((valD ds k).isSome ^^ neg) = _; rw [g2]; rfl
    | scr h1 h2 => cases hi
    | _ => cases e
  · cases e
theorem s_din : OpSh K (fun y x H Q => ∃ a o, x = .ref a ∧ DGet H a y o ∧ Q (.bl o.isSome) H) (fDIn false) := OpS.sh fun F H x y dx dy d Q s rx ry e q => by
  obtain ⟨a, o, h1, h2, rfl⟩ := fDIn_ok s rx ry e
  exact ⟨a, o, h1, h2, q _ (by rw [Bool.xor_false]; exact .bl _)⟩
theorem s_dnotin : OpSh K (fun y x H Q => ∃ a o, x = .ref a ∧ DGet H a y o ∧ Q (.bl (!o.isSome)) H) (fDIn true) := OpS.sh fun F H x y dx dy d Q s rx ry e q => by
  obtain ⟨a, o, h1, h2, rfl⟩ := fDIn_ok s rx ry e
  exact ⟨a, o, h1, h2, q _ (by rw [Bool.xor_true]; exact .bl _)⟩
theorem sh_din (h1 : ShE K mg E ty mk) (h2 : ShE K mg E td md) : ShE K mg E (tDIn ty td) (mOp (fDIn false) mk md) :=
  (show ShE K mg E (tOp (fun y x H Q => ∃ a o, x = .ref a ∧ DGet H a y o ∧ Q (.bl o.isSome) H) ty td) _ from sh_op s_din h1 h2)
theorem sh_dnotin (h1 : ShE K mg E ty mk) (h2 : ShE K mg E td md) : ShE K mg E (tDNotIn ty td) (mOp (fDIn true) mk md) :=
  (show ShE K mg E (tOp (fun y x H Q => ∃ a o, x = .ref a ∧ DGet H a y o ∧ Q (.bl (!o.isSome)) H) ty td) _ from sh_op s_dnotin h1 h2)
end
theorem v_din {neg : Bool} {x : D} {kds : List (D × D)} {k : Key} {Q : D → Prop} (h : isDic (.dict kds) = true) (hk : keyD x = some k) (q : Q (.bool ((valD kds k).isSome ^^ neg))) : VAL (fDIn neg x (.dict kds)) Q := ⟨_, by
  unfold fDIn
  rw [if_pos h]
  show (keyD x).map _ = _
  rw [hk]
  rfl, q⟩
/-! texts in order -/
def insS (x : Str) : List Str → List Str
  | [] => [x]
  | y :: ys => if ltCps y.cps.toList x.cps.toList = true then y :: insS x ys else x :: y :: ys
def sortS : List Str → List Str
  | [] => []
  | x :: xs => insS x (sortS xs)
theorem insS_perm (x : Str) : ∀ ys : List Str, (insS x ys).Perm (x :: ys)
  | [] => .refl _
  | y :: ys => by
    unfold insS
    split
    · exact ((insS_perm x ys).cons y).trans (.swap ..)
    · exact .refl _
theorem sortS_perm : ∀ xs : List Str, (sortS xs).Perm xs
  | [] => .refl _
  | x :: xs => (insS_perm x _).trans ((sortS_perm xs).cons x)
def LeS (x y : Str) : Prop := ltCps y.cps.toList x.cps.toList = false
theorem LeS_iff {x y : Str} : LeS x y ↔ x.cps.toList ≤ y.cps.toList := by
  unfold LeS
  rw [ltCps_eq, decide_eq_false_iff_not]
  exact Iff.rfl
theorem LeS.trans {x y z : Str} (h : LeS x y) (g : LeS y z) : LeS x z := LeS_iff.mpr (List.le_trans (LeS_iff.mp h) (LeS_iff.mp g))
theorem LeS.anti {x y : Str} (h : LeS x y) (g : LeS y x) : x = y := by
  have := List.le_antisymm (LeS_iff.mp h) (LeS_iff.mp g)
  cases x; cases y
  simpa using this
theorem LeS.total {x y : Str} (h : ¬ LeS x y) : LeS y x := by
  have h2 : y.cps.toList < x.cps.toList := by
    unfold LeS at h
    rw [ltCps_eq, decide_eq_false_iff_not, Classical.not_not] at h
    exact h
  rw [LeS_iff]
  exact List.le_of_lt h2
theorem rising_pw : ∀ {xs : List Str} {p : Str}, risingS p xs = true → (∀ x ∈ xs, LeS p x) ∧ xs.Pairwise LeS
  | [], _, _ => ⟨fun _ h => (List.not_mem_nil h).elim, .nil⟩
  | x :: xs, p, h => by
    unfold risingS at h
    rw [Bool.and_eq_true, Bool.not_eq_true'] at h
    obtain ⟨a, b⟩ := rising_pw h.2
    refine ⟨fun y hy => ?_, .cons a b⟩
    rcases List.mem_cons.mp hy with rfl | hy
    · exact h.1
    · exact LeS.trans h.1 (a y hy)
theorem sortedS_pw {xs : List Str} (h : sortedS xs = true) : xs.Pairwise LeS := by
  cases xs with
  | nil => exact .nil
  | cons x xs => exact .cons (rising_pw h).1 (rising_pw h).2
theorem insS_pw (x : Str) : ∀ ys : List Str, ys.Pairwise LeS → (insS x ys).Pairwise LeS
  | [], _ => by unfold insS; exact .cons (fun _ h => (List.not_mem_nil h).elim) .nil
  | y :: ys, h => by
    obtain ⟨a, b⟩ := List.pairwise_cons.mp h
    unfold insS
    split
    · rename_i l
      refine .cons (fun z hz => ?_) (insS_pw x ys b)
      rcases List.mem_cons.mp ((insS_perm x ys).mem_iff.mp hz) with rfl | hz
      · exact LeS.total fun e => by unfold LeS at e; rw [l] at e; cases e
      · exact a z hz
    · rename_i l
      have l : LeS x y := by unfold LeS; simpa using l
      refine .cons (fun z hz => ?_) h
      rcases List.mem_cons.mp hz with rfl | hz
      · exact l
      · exact l.trans (a z hz)
theorem sortS_pw : ∀ xs : List Str, (sortS xs).Pairwise LeS
  | [] => .nil
  | x :: xs => insS_pw x _ (sortS_pw xs)
theorem sortedS_eq : ∀ {xs ys : List Str}, xs.Perm ys → xs.Pairwise LeS → ys.Pairwise LeS → xs = ys
  | [], ys, p, _, _ => p.nil_eq
  | x :: xs, [], p, _, _ => absurd p.length_eq (by simp)
  | x :: xs, y :: ys, p, h1, h2 => by
    obtain ⟨a1, a2⟩ := List.pairwise_cons.mp h1
    obtain ⟨b1, b2⟩ := List.pairwise_cons.mp h2
    have e1 : x ∈ y :: ys := p.mem_iff.mp (List.mem_cons_self ..)
    have e2 : y ∈ x :: xs := p.mem_iff.mpr (List.mem_cons_self ..)
    have e : x = y := by
      rcases List.mem_cons.mp e1 with z | z
      · exact z
      rcases List.mem_cons.mp e2 with w | w
      · exact w.symm
      exact LeS.anti (a1 _ w) (b1 _ z)
    subst e
    rw [sortedS_eq (p.cons_inv) a2 b2]
/-! sorted(d), the keys texts -/
def strsD : List D → Option (List Str)
  | [] => some []
  | .str x :: ds => (strsD ds).map (x :: ·)
  | _ :: _ => none
theorem strsD_eq : ∀ {ds : List D} {xs : List Str}, strsD ds = some xs → ds = xs.map .str
  | [], _, e => by cases e; rfl
  | d :: ds, xs, e => by
    cases d with
    | str x =>
      have e : (strsD ds).map (x :: ·) = some xs := e
      cases z : strsD ds with
      | none => rw [z] at e; cases e
      | some ys => rw [z] at e; cases e; rw [strsD_eq z]; rfl
    | _ => cases e
theorem strsD_map : ∀ xs : List Str, strsD (xs.map .str) = some xs
  | [] => rfl
  | x :: xs => by show (strsD (xs.map .str)).map (x :: ·) = _; rw [strsD_map xs]; rfl
def cbSortedD : List D → Option D
  | [.dict kds] => (strsD (kds.map (·.1))).bind fun xs => if xs.length < 64 then some (.list ((sortS xs).map .str)) else none
  | _ => none
section
variable {K : PySem.W.Frag}
theorem rpk_keys {F : Hp} : ∀ {kvs : List (Key × V)} {kds : List (D × D)} {xs : List Str}, RpK K F kvs kds → kds.map (·.1) = xs.map .str → kvs.map (·.1) = xs.map Sum.inr
  | _, _, [], .nil, _ => rfl
  | _, _, [], .cons _ _, e => by cases e
  | _, _, _ :: _, .nil, e => by cases e
  | _, _, x :: xs, .cons (k := k) h r, e => by
    have e1 : kD k = .str x := (List.cons.inj e).1
    have e2 := (List.cons.inj e).2
    rw [List.map_cons, List.map_cons, rpk_keys r e2]
    cases k with
    | inl i => cases e1
    | inr y => cases e1; rfl
theorem rpa_strs {F : Hp} : ∀ xs : List Str, RpA K F (xs.map V.str) (xs.map .str)
  | [] => .nil
  | x :: xs => .cons (.str x) (rpa_strs xs)
abbrev rSortD : List V → Hp → VK → Prop := fun xs H Q => ∃ (a : Addr) (kvs : List (Key × V)) (ks : List Str), xs = [.ref a] ∧ Rd H a (.dK kvs) ∧ kvs.map (·.1) = ks.map Sum.inr ∧ ks.length < 64 ∧ ∀ ys p, ys.Perm ks → sortedS ys = true → H p = none → Q (.ref p) (upd H p (.lst (ys.map V.str)))
theorem cf_sortedD : CbF K rSortD cbSortedD := fun F H xs ds d Q s rx e q => by
  unfold cbSortedD at e
  split at e
  · rename_i kds
    obtain ⟨v, rfl, hv⟩ := one_rp rx
    cases z : strsD (kds.map (·.1)) with
    | none => rw [z] at e; cases e
    | some ns =>
      rw [z] at e
      have e : (if ns.length < 64 then some (PyData.list ((sortS ns).map .str)) else none) = some d := e
      split at e
      · rename_i hl
        cases e
        cases hv with
        | dic h1 h2 =>
          refine ⟨_, _, ns, rfl, .inl (s _ _ h1), rpk_keys h2 (strsD_eq z), hl, fun ns' p pm pw np => ?_⟩
          have : ns' = sortS ns := sortedS_eq (pm.trans (sortS_perm ns).symm) (sortedS_pw pw) (sortS_pw ns)
          subst this
          exact q p _ _ np rfl (rpa_strs _)
        | scr h1 h2 => cases z
      · cases e
  · cases e
end
theorem v_sortedD {kds : List (D × D)} {xs : List Str} {Q : D → Prop} (h : kds.map (·.1) = xs.map .str) (hl : xs.length < 64) (q : Q (.list ((sortS xs).map .str))) : VAL (cbSortedD [.dict kds]) Q := ⟨_, by
  show (strsD (kds.map (·.1))).bind _ = _
  rw [h, strsD_map]
  show (if xs.length < 64 then _ else _) = _
  rw [if_pos hl], q⟩
theorem satX_P {r : Res D} {Q : D → Prop} {X : Str → D → Prop} (h : SatP r Q) : SatX r Q X := by
  obtain ⟨d, e, q⟩ := h
  exact satX_ok e q
end Mi

set_option Elab.async false
set_option linter.all false
set_option maxRecDepth 100000
/-! sorted of any data that can be compared -/
namespace Mi
open PySem PySem.Spec PyProof.Rows L2
abbrev leX : D → D → Bool := PySem.W.dataLe false id
def OkX (ds : List D) : Prop := nodicA ds = true ∧ PySem.W.AllAlike ds ∧ PySem.W.Sortable ds ∧ ds.length ≤ 100000 ∧ ∀ d ∈ ds, d.depth ≤ 20
def rSortX (K : PySem.W.Frag) : List V → Hp → VK → Prop := fun vs H Q => ∃ (a : Addr) (xs : List V) (ds : List D), vs = [V.ref a] ∧ SqL K H a xs ∧ DpAll K H xs ds ∧ OkX ds ∧
  ∀ (p : Addr), H p = none → Q (.ref p) (upd H p (.lst (((xs.zip ds).mergeSort fun a b => leX a.2 b.2).map (·.1))))
theorem each_zip {X : Cx} {pins : List (Addr × Obj)} {σ : L2.St} {H : Hp} {s : Shared} (I : Inv X pins σ H s) : ∀ {xs : List V} {us : List Value} {ds : List D}, Vals xs us → DpAll X.K H xs ds → PySem.W.EachIs (fun v (b : V × D) => RelV b.1 v) us (xs.zip ds) ∧ PySem.W.EachIs (fun v (b : V × D) => ∃ as, Reads s.heap v b.2 as) us (xs.zip ds)
  | _, _, _, .nil, .nil => ⟨.nil, .nil⟩
  | _, _, _, .cons r rv, .cons h hs => by
    obtain ⟨a, b⟩ := each_zip I rv hs
    exact ⟨.cons r a, .cons (Dp.reads I _ _ _ h r) b⟩
theorem dpall_len {K : PySem.W.Frag} {H : Hp} : ∀ {xs : List V} {ds : List D}, DpAll K H xs ds → xs.length = ds.length
  | _, _, .nil => rfl
  | _, _, .cons _ r => by rw [List.length_cons, List.length_cons, dpall_len r]
theorem vals_each : ∀ {us : List Value} {bs : List (V × D)}, PySem.W.EachIs (fun v b => RelV b.1 v) us bs → Vals (bs.map (·.1)) us
  | _, _, .nil => .nil
  | _, _, .cons h t => .cons h (vals_each t)
theorem cr_sortedX {X : Cx} (hu : X.A.units + 64 < cLine) : CallR X (.builtin "sorted") (rSortX X.K) := by
  intro pins s σ H vs us Q I r h
  obtain ⟨a, xs, ds, rfl, hs, hd, ⟨h1, h2, h3, h4, h5⟩, q⟩ := h
  obtain ⟨its, rv, hl, hz⟩ := I.list hs
  rw [Vals.ref1 r]
  obtain ⟨e1, e2⟩ := each_zip I rv hd
  have hlen := dpall_len hd
  have ez : (xs.zip ds).map (·.2) = ds := by rw [← List.unzip_snd, List.unzip_zip hlen]
  refine PySem.W.sorted_data (enc := fun b : V × D => b.2) hl.isList e1 e2 (by rw [ez]; exact h2) (by rw [ez]; exact h3) ?_ (fun b hb => ?_) fun out ho eo => ?_
  · rw [List.length_zip, hlen, Nat.min_self]
    rw [sizeLine_eq]
    omega
  · have := h5 b.2 (by rw [← ez]; exact List.mem_map.mpr ⟨b, hb, rfl⟩)
    show X.A.units + 2 + b.2.depth < cLine
    omega
  · obtain ⟨ep, he'⟩ := PyProof.Rows.sortedAll_at s.heap its out.toArray
    have rv' := vals_each eo
    refine ⟨.ref _, upd H (s.heap.objs.size + 1) (.lst _), I.laid (t' := s.toks) (fun _ _ => PyProof.Rows.sortedAll_old) (Nat.le_succ _) ⟨?_, out, ep, rv', he'⟩, rfl, q _ (I.hok.fresh (Nat.le_succ _))⟩
    rw [List.length_map, List.length_mergeSort, List.length_zip, hlen, Nat.min_self, sizeLine_eq]
    omega
open Classical in
noncomputable def cbSortX : List D → Option D
  | [.list ds] => if OkX ds then some (.list (ds.mergeSort leX)) else none
  | _ => none
theorem rpa_perm {K : PySem.W.Frag} {F : Hp} : ∀ {bs : List (V × D)}, (∀ b ∈ bs, Rp K F b.1 b.2) → RpA K F (bs.map (·.1)) (bs.map (·.2))
  | [], _ => .nil
  | b :: bs, h => .cons (h b (List.mem_cons_self ..)) (rpa_perm fun c hc => h c (List.mem_cons_of_mem _ hc))
theorem rpa_zip {K : PySem.W.Frag} {F : Hp} : ∀ {xs : List V} {ds : List D}, RpA K F xs ds → ∀ b ∈ xs.zip ds, Rp K F b.1 b.2
  | _, _, .nil, _, hb => by cases hb
  | _, _, .cons h r, b, hb => by
    rw [List.zip_cons_cons] at hb
    rcases List.mem_cons.mp hb with rfl | hb
    · exact h
    · exact rpa_zip r b hb
theorem cf_sortedX {K : PySem.W.Frag} : CbF K (rSortX K) cbSortX := fun F H xs ds d Q s rx e q => by
  unfold cbSortX at e
  split at e
  · rename_i es
    obtain ⟨v, rfl, hv⟩ := one_rp rx
    split at e
    · rename_i ok
      cases e
      cases hv with
      | lst h1 h2 =>
        rename_i a vs
        refine ⟨a, vs, es, rfl, SqL.of (s _ _ h1), (h2.mono s).dp ok.1, ok, fun p np => q p _ _ np rfl ?_⟩
        have e1 : ((vs.zip es).mergeSort fun a b => leX a.2 b.2).map (·.2) = es.mergeSort leX := by
          rw [List.map_mergeSort (s := leX) (fun _ _ _ _ => rfl)]
          rw [← List.unzip_snd, List.unzip_zip h2.length]
        rw [← e1]
        exact rpa_perm fun b hb => rpa_zip h2 b ((List.mergeSort_perm _ _).mem_iff.mp hb)
    · cases e
  · cases e
theorem v_sortX {ds : List D} {Q : D → Prop} (h : OkX ds) (q : Q (.list (ds.mergeSort leX))) : VAL (cbSortX [.list ds]) Q := ⟨_, by unfold cbSortX; exact if_pos h, q⟩
/-! what the order says -/
theorem leX_total : PySem.W.TotalLe leX := PySem.W.sortLe_total _ _ _
theorem sortX_pw (ds : List D) : (ds.mergeSort leX).Pairwise fun a b => leX a b = true := List.pairwise_mergeSort (fun a b c h g => leX_total.trans a b c h g) (fun a b => by rcases leX_total.total a b with h | h <;> simp [h]) ds
theorem sortX_perm (ds : List D) : (ds.mergeSort leX).Perm ds := List.mergeSort_perm _ _
theorem leX_int {t u : Int} {r r' : List D} (h : leX (.tuple (.int t :: r)) (.tuple (.int u :: r')) = true) : t ≤ u := by
  have h : (!PySem.W.dataLt (.tuple (.int u :: r')) (.tuple (.int t :: r))) = true := h
  rcases Int.lt_or_le u t with l | l
  · rw [PySem.W.dataLt_tuple, PySem.W.dataLt_cons (by simp [PySem.W.alike])] at h
    have e : PyData.eqv (.int u) (.int t) = false := by
      simp [PyData.eqv]
      omega
    rw [e] at h
    have h : (!PySem.W.dataLt (.int u) (.int t)) = true := h
    rw [PySem.W.dataLt_int, decide_eq_true l] at h
    cases h
  · exact l
/-! [.., *xs, ..] -/
section
variable {K : PySem.W.Frag} {mg : Str → Option Value} {E : L2.St → XK} {tr : TA} {as : List AI} {ρ : Env} {Q : D → Env → Prop}
def mLstS (as : List AI) : ME := fun ρ => (mAS as ρ).bind fun p => if p.1.length ≤ 16777216 then .ok (.list p.1, p.2) else .stuck
theorem shf_lstS (h : ShAS K mg E tr as) : ShF K mg E (tLst tr) (mLstS as) := by
  intro Φ F σ H ρ Q W r x g
  refine h Φ F σ H ρ _ W r x ((Good.bind (r := mAS as ρ) g).mono (fun p gp vs F1 H1 r1 s1 rv => ?_) fun _ _ _ w => w)
  split at gp
  · refine ⟨by rw [rv.length, sizeLine_eq]; assumption, fun a na => ?_⟩
    obtain ⟨r2, nF, n0, ap⟩ := r1.allocO (o := .lst vs) na
    exact gp a _ _ r2 s1 nF n0 ap ⟨vs, upd_same, rv⟩
  · exact gp.elim
theorem w_lstS (q : SatA (mAS as ρ) fun ds ρ1 => LEQ ds (Q (.list ds) ρ1)) : Sat (mLstS as ρ) Q := by
  obtain ⟨ds, ρ1, e1, h, q⟩ := q
  exact ⟨_, ρ1, by unfold mLstS; rw [e1]; show (if ds.length ≤ 16777216 then _ else _) = _; rw [if_pos h], q⟩
end
end Mi

set_option Elab.async false
set_option linter.all false
set_option maxRecDepth 100000
/-! defs whose last row is `return x`, x an object of their own -/
namespace Mi
open PySem PySem.Spec PyProof.Rows L2
section
variable {K : PySem.W.Frag} {mg : Str → Option Value} {E : L2.St → XK} {tr : TA} {ms : List ME} {s1 s2 : TS} {m1 m2 : MS}
def spIF (K : PySem.W.Frag) (n : Nat) (f : MFi) : Sp := fun vs H Q _ => vs.length = n + 1 ∧ ∃ F a d0 us ds, vs = .ref a :: us ∧ Same F H ∧ F a = none ∧ OwnS K F H a d0 ∧ RpA K F us ds ∧
  Good (f d0 ds) (fun p => ∀ c F' H', Same F F' → Same F' H' → (∀ b, F b = none → H b ≠ none → F' b = none) → (∀ b o, H b = some o → b ≠ a → H' b = some o) → OwnS K F' H' a p.2 → F' c = none → H c = none → OwnR K F' H' c p.1 → Q (.ref c) H') (fun _ _ _ => False)
theorem absurd_stIF {n : Nat} {vs : List V} {H : Hp} {Q : VK} {E : XK} (h : spIF K n (fun _ _ => .stuck) vs H Q E) : False := by
  obtain ⟨_, F, a, d0, us, ds, _, _, _, _, _, g⟩ := h
  exact g
theorem putMu_own {ρ : Env} {i j : Nat} {d e : D} (h : (putMu ρ i d)[j]? = some (.own e)) : ∃ e', ρ[j]? = some (.own e') := by
  unfold putMu at h
  split at h
  · rename_i d0 q
    rcases getset h with ⟨rfl, _, _⟩ | ⟨_, h⟩
    · exact ⟨_, q⟩
    · exact ⟨_, h⟩
  · rcases getset h with ⟨_, z, _⟩ | ⟨_, h⟩
    · cases z
    · exact ⟨_, h⟩
  · exact ⟨_, h⟩
theorem shf_callI {f : MFi} {n j : Nat} (h : ShA K mg E tr ms) (hl : ms.length = n) : ShF K mg E (tCall (spIF K n f) [] E0 (tCons (tVar j) tr)) (mCallI f j ms) := by
  intro Φ F σ H ρ Q W r x g
  unfold mCallI at g
  cases e : mu ρ j with
  | none => rw [e] at g; exact g.elim
  | some d00 =>
    rw [e] at g
    obtain ⟨a, ea, _, _⟩ := r.mu e
    refine ⟨_, ea, h Φ F σ H ρ _ W r x ((Good.bind (r := mA ms ρ) g).mono (fun p gp vs F1 H1 r1 s1 rv el => ?_) fun _ _ _ w => w)⟩
    show spIF K n f ((V.ref a :: vs) ++ []) H1 Q E0
    rw [List.append_nil]
    cases e1 : mu p.2 j with
    | none => simp only [e1] at gp; exact gp.elim
    | some d0 =>
      simp only [e1] at gp
      obtain ⟨a', ea', nF, ow⟩ := r1.mu e1
      rw [ea] at ea'
      cases ea'
      refine ⟨by rw [List.length_cons, el, hl], F1, a, d0, vs, p.1, rfl, r1.sub, nF, ow, rv, (Good.nx (W' := fun _ _ _ => False) (Good.bind (r := (f d0 p.1).nx) gp)).mono (fun q gq c F' H' sF sH nw kp ow' nc hc oc => ?_) fun _ _ _ w => w.elim⟩
      refine gq c F' H' (r1.growMu sF sH nw kp e1 ea ow') (s1.trans sF) nc (r1.dom c hc) (fun i d hi z => ?_) oc
      obtain ⟨e', hi⟩ := putMu_own hi
      obtain ⟨b, w1, w2, w3, w4⟩ := r1.sl i _ hi
      rw [z] at w1
      cases w1
      obtain ⟨o, eo⟩ := w4.ex
      rw [hc] at eo
      cases eo
/-- the rows ahead of `return x` -/
def ShRo (K : PySem.W.Frag) (mg : Str → Option Value) (E : L2.St → XK) (j : Nat) (t : TS) (m : MS) : Prop := ∀ (Φ : Fm) (F : Hp) (σ : L2.St) (H : Hp) (ρ : Env) (De : Ends) (W : WXm), R K Φ F σ H ρ → XW K mg Φ E W →
  (match m ρ with
    | .nx ρ' => ∀ σ' F' H', R K Φ F' σ' H' ρ' → Same F F' → tRet (tVar j) De σ' H'
    | _ => False) → t De σ H
theorem sho_last {j : Nat} : ShRo K mg E j (tRet (tVar j)) mNext := fun Φ F σ H ρ De W r x g => g σ F H r (Same.refl _)
theorem sho_seq {j : Nat} (h1 : ShS K mg E s1 m1) (h2 : ShRo K mg E j s2 m2) : ShRo K mg E j (tSeq s1 s2) (mSeq m1 m2) := by
  intro Φ F σ H ρ De W r x g
  refine h1 Φ F σ H ρ { De with nx := s2 De } W r x ?_
  unfold mSeq at g
  cases e : m1 ρ with
  | nx ρ' =>
    rw [e] at g
    refine fun σ' F' H' r' s => h2 Φ F' σ' H' ρ' De W r' x ?_
    dsimp only at g
    cases e2 : m2 ρ' with
    | nx ρ2 => rw [e2] at g; exact fun σ2 F2 H2 r2 s2 => g σ2 F2 H2 r2 (s.trans s2)
    | _ => rw [e2] at g; exact g
  | _ => rw [e] at g; exact g.elim
def ownAt (ρ : Env) (j : Nat) : Option D := match ρ[j]? with
  | some (.own d) => match frz d with
    | true => some d
    | false => none
  | _ => none
def runIO (N j : Nat) (m : MS) : MFi := fun d0 ds => match m (envI N d0 ds) with
  | .nx ρ => match ownAt ρ j with
    | some d => .ok (d, ioOf ρ)
    | none => .stuck
  | _ => .stuck
def runPO (N j : Nat) (m : MS) : MF := fun ds => match m (envP N ds) with
  | .nx ρ => match ownAt ρ j with
    | some d => .ok d
    | none => .stuck
  | _ => .stuck
theorem ownAt_ok {Φ : Fm} {F H : Hp} {σ : L2.St} {ρ : Env} {j : Nat} {d : D} (r : R K Φ F σ H ρ) (e : ownAt ρ j = some d) : ∃ a, σ[j]? = some (some (.ref a)) ∧ F a = none ∧ Φ.H0 a = none ∧ OwnR K F H a d := by
  unfold ownAt at e
  split at e
  · rename_i d' q
    cases hf : frz d' with
    | false => rw [hf] at e; cases e
    | true =>
      rw [hf] at e
      cases e
      obtain ⟨a, w1, w2, w3, w4⟩ := r.sl j _ q
      exact ⟨a, w1, w2, w3, w4.r hf⟩
  · cases e
theorem body_IO {N : List Str} {n j : Nat} {f : MS} {vs : List V} {H : Hp} {Q : VK} {Ex : XK} (hs : ShRo K mg (fun _ => Ex) j s1 f) (h : spIF K n (runIO N.length j f) vs H Q Ex) (hn : n + 1 ≤ N.length) : s1 { nx := fun _ H' => Q .non H', rt := Q } (L2.start N vs) H := by
  obtain ⟨hl, F, a, d0, us, ds, rfl, sub, nF, ow, rv, g⟩ := h
  rw [List.length_cons] at hl
  have r := R.startI (N := N) sub nF ow rv (by omega)
  have fin : ∀ {σ' : L2.St} {F' H' : Hp} {ρ : Env}, R K (fm1 H a F) F' σ' H' ρ → (∀ b o, H b = some o → b ≠ a → H' b = some o) ∧ OwnS K F' H' a (ioOf ρ) := fun {σ' F' H' ρ} r' => by
    obtain ⟨_, _, d, q1, _, q3⟩ := r'.io1 0 a rfl
    refine ⟨fun b o e z => r'.kept b o e (io0_ne z), ?_⟩
    unfold ioOf
    rw [q1]
    exact q3
  refine hs (fm1 H a F) F _ H _ _ (fun _ _ _ _ => False) r xw_false ?_
  unfold runIO at g
  cases e : f (envI N.length d0 ds) with
  | nx ρ =>
    rw [e] at g
    dsimp only at g
    cases eo : ownAt ρ j with
    | none => rw [eo] at g; exact g.elim
    | some d =>
      rw [eo] at g
      intro σ' F' H' r' s'
      obtain ⟨c, e1, e2, e3, e4⟩ := ownAt_ok r' eo
      exact ⟨_, e1, g c F' H' s' r'.sub r'.new (fin r').1 (fin r').2 e2 e3 e4⟩
  | _ => rw [e] at g; exact g.elim
theorem body_PO {N : List Str} {n j : Nat} {f : MS} {vs : List V} {H : Hp} {Q : VK} {Ex : XK} (hs : ShRo K mg (fun _ => Ex) j s1 f) (h : spF K n (runPO N.length j f) vs H Q Ex) (hn : n ≤ N.length) : s1 { nx := fun _ H' => Q .non H', rt := Q } (L2.start N vs) H := by
  obtain ⟨hl, F, ds, sub, rv, g⟩ := h
  have r := R.startP (N := N) sub rv (by omega)
  refine hs (fm0 H F) F _ H _ _ (fun _ _ _ _ => False) r xw_false ?_
  unfold runPO at g
  cases e : f (envP N.length ds) with
  | nx ρ =>
    rw [e] at g
    dsimp only at g
    cases eo : ownAt ρ j with
    | none => rw [eo] at g; exact g.elim
    | some d =>
      rw [eo] at g
      intro σ' F' H' r' s'
      obtain ⟨c, e1, e2, e3, e4⟩ := ownAt_ok r' eo
      exact ⟨_, e1, g c F' H' s' r'.sub r'.new (fun b o e => r'.kept b o e (fun _ z => by cases z)) e2 e3 e4⟩
  | _ => rw [e] at g; exact g.elim
variable {X : Cx} {body : List Stmt} {N : List Str} {n j : Nat} {f : MS} {vs : List V} {H : Hp} {Q : VK} {Ex : XK}
theorem fin_IO (pe : PSs X body s1) (hs : ShRo K mg (fun _ => Ex) j s1 f) (h : spIF K n (runIO N.length j f) vs H Q Ex) (hn : n + 1 ≤ N.length) : ∃ t, PSs X body t ∧ t { nx := fun _ H' => Q .non H', rt := Q } (L2.start N vs) H := ⟨s1, pe, body_IO hs h hn⟩
theorem fin_PO (pe : PSs X body s1) (hs : ShRo K mg (fun _ => Ex) j s1 f) (h : spF K n (runPO N.length j f) vs H Q Ex) (hn : n ≤ N.length) : ∃ t, PSs X body t ∧ t { nx := fun _ H' => Q .non H', rt := Q } (L2.start N vs) H := ⟨s1, pe, body_PO hs h hn⟩
end
def OWN (ρ : Env) (j : Nat) (N : D → Prop) : Prop := ∃ d, ownAt ρ j = some d ∧ N d
theorem run_IO {n j : Nat} {f : MS} {d0 : D} {ds : List D} {Q : D → D → Prop} (q : SatS (f (envI n d0 ds)) (fun ρ => OWN ρ j fun d => IO ρ (Q d)) (fun _ _ => False) (fun _ => False) (fun _ => False) (fun _ _ _ => False)) : SatI (runIO n j f d0 ds) Q := by
  unfold SatI runIO
  cases e : f (envI n d0 ds) with
  | nx ρ =>
    rw [e] at q
    obtain ⟨d, e1, q⟩ := q
    dsimp only
    rw [e1]
    obtain ⟨z, e2, q⟩ := q
    exact ⟨d, z, by unfold ioOf; rw [e2], q⟩
  | _ => rw [e] at q; exact q.elim
theorem run_PO {n j : Nat} {f : MS} {ds : List D} {Q : D → Prop} (q : SatS (f (envP n ds)) (fun ρ => OWN ρ j Q) (fun _ _ => False) (fun _ => False) (fun _ => False) (fun _ _ _ => False)) : SatP (runPO n j f ds) Q := by
  unfold SatP runPO
  cases e : f (envP n ds) with
  | nx ρ =>
    rw [e] at q
    obtain ⟨d, e1, q⟩ := q
    dsimp only
    rw [e1]
    exact ⟨d, rfl, q⟩
  | _ => rw [e] at q; exact q.elim
/-! x, y = a list -/
def gLl (n : Nat) (gs : MGs) : MG := fun d ρ => match d with
  | .list ds => if ds.length = n then gs ds ρ else none
  | _ => none
theorem shg_lst {K : PySem.W.Frag} {n : Nat} {gs : TGs} {tgs : MGs} {ts : List Nat} (hs : ShGs K gs tgs ts) : ShG K (gLst K n gs) (gLl n tgs) ts := by
  intro Φ F σ H ρ ρ' v d N r rv e q
  cases rv <;> try (cases e; done)
  rename_i a xs ds h1 h2
  have e : (if ds.length = n then tgs ds ρ else none) = some ρ' := e
  split at e
  · exact ⟨a, xs, rfl, SqL.of (r.sub _ _ h1), by rw [h2.length]; assumption, hs Φ F σ H ρ ρ' _ ds N r h2 e q⟩
  · cases e
theorem tg_l {n : Nat} {gs : MGs} {ds : List D} {ρ : Env} {N : Env → Prop} (h : ds.length = n) (q : TGS (gs ds ρ) N) : TG (gLl n gs (.list ds) ρ) N := by
  obtain ⟨ρ', e, q⟩ := q
  exact ⟨ρ', by show (if ds.length = n then _ else _) = _; rw [if_pos h, e], q⟩
theorem v_addS {a b : Str} {Q : D → Prop} (h : a.length + b.length ≤ 16777216) (q : Q (.str (a ++ b))) : VAL (fAddS (.str a) (.str b)) Q := ⟨_, if_pos h, q⟩
theorem v_str {i : Int} {Q : D → Prop} (h : i.natAbs.log2 < 1920) (q : Q (.str (toString i))) : VAL (cbStr [.int i]) Q := ⟨_, if_pos h, q⟩
end Mi

set_option Elab.async false
set_option linter.all false
set_option maxRecDepth 100000
/-! a def that is given an object of its caller's for good (its last argument) -/
namespace Mi
open PySem PySem.Spec PyProof.Rows L2
abbrev MFm := D → D → List D → Res (D × D)
section
variable {K : PySem.W.Frag} {mg : Str → Option Value} {E : L2.St → XK} {te : TE} {m : ME} {s1 : TS}
def spIM (K : PySem.W.Frag) (n : Nat) (f : MFm) : Sp := fun vs H Q _ => vs.length = n + 2 ∧ ∃ F a d0 c dm us ds, vs = .ref a :: (us ++ [.ref c]) ∧ Same F H ∧ (F a = none ∧ OwnS K F H a d0) ∧ (F c = none ∧ OwnS K F H c dm) ∧ a ≠ c ∧ RpA K F us ds ∧
  Good (f d0 dm ds) (fun p => ∀ v F' H', Same F F' → Same F' H' → (∀ b, F b = none → H b ≠ none → b ≠ c → F' b = none) → (∀ b o, H b = some o → b ≠ a → b ≠ c → H' b = some o) → OwnS K F' H' a p.2 → Rp K F' v p.1 → Q v H') (fun _ _ _ => False)
def less (H : Hp) (c : Addr) : Hp := fun b => if b = c then none else H b
theorem less_self {H : Hp} {c : Addr} : less H c c = none := if_pos rfl
theorem less_ne {H : Hp} {b c : Addr} (h : b ≠ c) : less H c b = H b := if_neg h
theorem less_some {H : Hp} {b c : Addr} {o : HO} (h : less H c b = some o) : b ≠ c ∧ H b = some o := by
  by_cases z : b = c
  · subst z; rw [less_self] at h; cases h
  · rw [less_ne z] at h; exact ⟨z, h⟩
theorem ownR_less {F H : Hp} {a c : Addr} {d : D} (h : OwnS K F H a d) (z : a ≠ c) : OwnS K F (less H c) a d := h.mono (Same.refl _) fun _ e => by rw [less_ne z]; exact e
theorem R.dropAt {Φ : Fm} {F H : Hp} {σ : L2.St} {ρ : Env} (h : R K Φ F σ H ρ) {c : Addr} (nF : F c = none) (n0 : Φ.H0 c = none) (ni : ∀ k, Φ.io k ≠ some c) (ap : ∀ (j : Nat) d, ρ[j]? = some (.own d) → σ[j]? ≠ some (some (.ref c))) : R K Φ F σ (less H c) ρ := by
  refine ⟨h.len, fun b o e => ?_, h.sub0, h.new, fun b o e z => ?_, fun b e => ?_, fun i s e => ?_, h.dis, fun k a e => ?_, h.io2⟩
  · rw [less_ne (by rintro rfl; rw [nF] at e; cases e)]; exact h.sub _ _ e
  · rw [less_ne (by rintro rfl; rw [n0] at e; cases e)]; exact h.kept b o e z
  · by_cases z : b = c
    · subst z; exact n0
    · rw [less_ne z] at e; exact h.dom b e
  · have w := h.sl i s e
    cases s with
    | no => trivial
    | val d => exact w
    | own d =>
      obtain ⟨a, w1, w2, w3, w4⟩ := w
      exact ⟨a, w1, w2, w3, ownR_less w4 (by rintro rfl; exact ap i d e w1)⟩
    | io d => trivial
  · obtain ⟨w1, w2, d, w3, w4, w5⟩ := h.io1 k a e
    exact ⟨w1, w2, d, w3, w4, ownR_less w5 (by rintro rfl; exact ni k e)⟩
def mCallIM (f : MFm) (i j : Nat) (m : ME) : ME := fun ρ => match mu ρ i with
  | none => .stuck
  | some _ => (m ρ).bind fun p => match mu p.2 i with
    | none => .stuck
    | some d0 => match ownAt p.2 j with
      | none => .stuck
      | some dm => if i = j then .stuck else (f d0 dm [p.1]).nx.bind fun q => .ok (q.1, putMu (p.2.set j .no) i q.2)
theorem mu_set {ρ : Env} {i j : Nat} (h : i ≠ j) {s : Sl} : mu (ρ.set j s) i = mu ρ i := by
  unfold mu
  rw [List.getElem?_set_ne (fun e => h e.symm)]
theorem sh_callIM {f : MFm} {i j : Nat} (h : ShE K mg E te m) : ShE K mg E (tCall (spIM K 1 f) [] E0 (tCons (tVar i) (tCons te (tCons (tVar j) tNil)))) (mCallIM f i j m) := by
  intro Φ F σ H ρ Q W r x g
  unfold mCallIM at g
  cases e : mu ρ i with
  | none => rw [e] at g; exact g.elim
  | some d00 =>
    rw [e] at g
    obtain ⟨a, ea, _, _⟩ := r.mu e
    refine ⟨_, ea, h Φ F σ H ρ _ W r x ((Good.bind (r := m ρ) g).mono (fun p gp v F1 H1 r1 s1 rv => ?_) fun _ _ _ w => w)⟩
    cases e1 : mu p.2 i with
    | none => simp only [e1] at gp; exact gp.elim
    | some d0 =>
      simp only [e1] at gp
      cases e2 : ownAt p.2 j with
      | none => simp only [e2] at gp; exact gp.elim
      | some dm =>
        simp only [e2] at gp
        obtain ⟨a', ea', nF, ow⟩ := r1.mu e1
        rw [ea] at ea'
        cases ea'
        obtain ⟨c, ec, nc, hc0, oc⟩ := ownAt_ok r1 e2
        split at gp
        · exact gp.elim
        rename_i hij
        have ej : p.2[j]? = some (.own dm) := by
          unfold ownAt at e2
          split at e2
          · rename_i d' q
            cases hf : frz d' with
            | false => rw [hf] at e2; cases e2
            | true => rw [hf] at e2; cases e2; exact q
          · cases e2
        have ac : a ≠ c := by
          rintro rfl
          unfold mu at e1
          split at e1
          · rename_i q; cases e1; exact hij (r1.dis i j _ _ _ q ej ea ec)
          · rename_i d q
            obtain ⟨b, hb⟩ := r1.io2 i d q
            obtain ⟨w1, w2, d', w3, w4, w5⟩ := r1.io1 i b hb
            rw [ea] at w4
            cases w4
            exact w1 hc0
          · cases e1
        have ni : ∀ k, Φ.io k ≠ some c := by
          intro k z
          exact (r1.io1 k c z).1 hc0
        refine ⟨_, ec, ?_⟩
        show spIM K 1 f ([V.ref a, v, V.ref c] ++ []) H1 Q E0
        refine ⟨rfl, F1, a, d0, c, dm, [v], [p.1], rfl, r1.sub, ⟨nF, ow⟩, ⟨nc, oc.s⟩, ac, .cons rv .nil, (Good.nx (W' := fun _ _ _ => False) (Good.bind (r := (f d0 dm [p.1]).nx) gp)).mono (fun q gq u F' H' sF sH nw kp ow' rd => ?_) fun _ _ _ w => w.elim⟩
        have r2 : R K Φ F1 σ H1 (p.2.set j .no) := by
          have hn : notIo p.2 j = true := by unfold notIo; rw [ej]
          have := set_no r1 (o := some (.ref c)) hn
          have es : σ.set j (some (.ref c)) = σ := by
            apply List.ext_getElem?
            intro k
            by_cases z : j = k
            · subst z
              rw [List.getElem?_set_self (List.getElem?_eq_some_iff.mp ec).1, ec]
            · rw [List.getElem?_set_ne z]
          rw [es] at this
          exact this
        have r3 : R K Φ F1 σ (less H1 c) (p.2.set j .no) := r2.dropAt nc hc0 ni fun k d hk z => by
          rcases getset hk with ⟨_, w, _⟩ | ⟨w, hk⟩
          · cases w
          · exact w (r1.dis k j _ _ _ hk ej z ec).symm
        refine gq u F' H' (r3.growMu sF sH (fun b n z => ?_) (fun b o z y => ?_) (by rw [mu_set hij]; exact e1) ea ow') (s1.trans sF) rd
        · by_cases w : b = c
          · subst w; exact absurd less_self z
          · rw [less_ne w] at z; exact nw b n z w
        · obtain ⟨w1, w2⟩ := less_some z
          exact kp b o w2 y w1
def envIM (N : Nat) (d0 dm : D) (ds : List D) : Env := .io d0 :: (ds.map .val ++ .own dm :: List.replicate (N - 2 - ds.length) .no)
def runIM (N : Nat) (m : MS) : MFm := fun d0 dm ds => match m (envIM N d0 dm ds) with
  | .nx ρ => .ok (.none, ioOf ρ)
  | .rt d ρ => .ok (d, ioOf ρ)
  | _ => .stuck
theorem R.startIM {N : List Str} {a c : Addr} {us : List V} {d0 dm : D} {ds : List D} {F H : Hp} (sub : Same F H) (nF : F a = none) (ow : OwnS K F H a d0) (nc : F c = none) (oc : OwnS K F H c dm) (ac : a ≠ c) (rv : RpA K F us ds) (hl : us.length + 2 ≤ N.length) :
    R K (fm1 (less H c) a F) F (L2.start N (.ref a :: (us ++ [.ref c]))) H (envIM N.length d0 dm ds) := by
  obtain ⟨o, eo⟩ := ow.ex
  have hlen : (V.ref a :: (us ++ [V.ref c])).length = us.length + 2 := by simp
  have len : (L2.start N (.ref a :: (us ++ [.ref c]))).length = (envIM N.length d0 dm ds).length := by
    rw [start_len (by rw [hlen]; exact hl)]
    unfold envIM
    rw [List.length_cons, List.length_append, List.length_cons, List.length_map, List.length_replicate, ← rv.length]
    omega
  have low : ∀ (i : Nat) s, (envIM N.length d0 dm ds)[i]? = some s → (i = 0 ∧ s = .io d0) ∨ s = .no ∨ (i = us.length + 1 ∧ s = .own dm) ∨ ∃ d v, s = .val d ∧ (L2.start N (.ref a :: (us ++ [.ref c])))[i]? = some (some v) ∧ Rp K F v d := by
    intro i s e
    cases i with
    | zero => cases e; exact .inl ⟨rfl, rfl⟩
    | succ i =>
      have e : (ds.map Sl.val ++ .own dm :: List.replicate (N.length - 2 - ds.length) .no)[i]? = some s := e
      by_cases h1 : i < ds.length
      · rw [List.getElem?_append_left (by rw [List.length_map]; exact h1), List.getElem?_map, List.getElem?_eq_getElem h1] at e
        cases e
        obtain ⟨v, q1, q2⟩ := rv.get' (List.getElem?_eq_getElem h1)
        refine .inr (.inr (.inr ⟨_, v, rfl, start_get ?_, q2⟩))
        rw [List.getElem?_cons_succ, List.getElem?_append_left (by rw [rv.length]; exact h1)]
        exact q1
      · rw [List.getElem?_append_right (by rw [List.length_map]; omega), List.length_map] at e
        cases hk : i - ds.length with
        | zero =>
          rw [hk] at e
          cases e
          exact .inr (.inr (.inl ⟨by rw [rv.length]; omega, rfl⟩))
        | succ k =>
          rw [hk, List.getElem?_cons_succ, List.getElem?_replicate] at e
          split at e
          · cases e; exact .inr (.inl rfl)
          · cases e
  have ec : (L2.start N (.ref a :: (us ++ [.ref c])))[us.length + 1]? = some (some (.ref c)) := start_get (by
    rw [List.getElem?_cons_succ, List.getElem?_append_right (Nat.le_refl _), Nat.sub_self]
    rfl)
  refine ⟨len, sub, Same.refl _, fun b n _ => n, fun b o e _ => (less_some e).2, fun b e => ?_, fun i s e => ?_, fun i j b d e q1 q2 f1 f2 => ?_, fun k b e => ?_, fun i d e => ?_⟩
  · show less H c b = none
    by_cases z : b = c
    · subst z; exact less_self
    · rw [less_ne z]; exact e
  · rcases low i s e with ⟨_, rfl⟩ | rfl | ⟨rfl, rfl⟩ | ⟨d, v, rfl, q1, q2⟩
    · trivial
    · trivial
    · exact ⟨c, ec, nc, less_self, oc⟩
    · exact ⟨v, q1, q2⟩
  · rcases low i _ q1 with ⟨_, z⟩ | z | ⟨hi, _⟩ | ⟨_, _, z, _⟩
    · cases z
    · cases z
    · rcases low j _ q2 with ⟨_, z⟩ | z | ⟨hj, _⟩ | ⟨_, _, z, _⟩
      · cases z
      · cases z
      · rw [hi, hj]
      · cases z
    · cases z
  · obtain ⟨rfl, rfl⟩ := io0_at e
    exact ⟨by show less H c b ≠ none; rw [less_ne ac, eo]; exact fun z => (by cases z), nF, d0, rfl, start_get (by rfl), ow⟩
  · rcases low i _ e with ⟨rfl, z⟩ | z | ⟨_, z⟩ | ⟨_, _, z, _⟩
    · exact ⟨a, rfl⟩
    · cases z
    · cases z
    · cases z
theorem body_IM {N : List Str} {n : Nat} {f : MS} {vs : List V} {H : Hp} {Q : VK} {Ex : XK} (hs : ShS K mg (fun _ => Ex) s1 f) (h : spIM K n (runIM N.length f) vs H Q Ex) (hn : n + 2 ≤ N.length) : s1 { nx := fun _ H' => Q .non H', rt := Q } (L2.start N vs) H := by
  obtain ⟨hl, F, a, d0, c, dm, us, ds, rfl, sub, ⟨nF, ow⟩, ⟨nc, oc⟩, ac, rv, g⟩ := h
  rw [List.length_cons, List.length_append, List.length_singleton] at hl
  have r := R.startIM (N := N) sub nF ow nc oc ac rv (by omega)
  have fin : ∀ {σ' : L2.St} {F' H' : Hp} {ρ : Env}, R K (fm1 (less H c) a F) F' σ' H' ρ → (∀ b, F b = none → H b ≠ none → b ≠ c → F' b = none) ∧ (∀ b o, H b = some o → b ≠ a → b ≠ c → H' b = some o) ∧ OwnS K F' H' a (ioOf ρ) := fun {σ' F' H' ρ} r' => by
    obtain ⟨_, _, d, q1, _, q3⟩ := r'.io1 0 a rfl
    refine ⟨fun b n z w => r'.new b n (by show less H c b ≠ none; rw [less_ne w]; exact z), fun b o e z w => r'.kept b o (by show less H c b = some o; rw [less_ne w]; exact e) (io0_ne z), ?_⟩
    unfold ioOf
    rw [q1]
    exact q3
  refine hs (fm1 (less H c) a F) F _ H _ _ (fun _ _ _ _ => False) r xw_false ?_
  unfold runIM at g
  cases e : f (envIM N.length d0 dm ds) with
  | nx ρ => rw [e] at g; exact fun σ' F' H' r' s' => g .non F' H' s' r'.sub (fin r').1 (fin r').2.1 (fin r').2.2 .non
  | rt d ρ => rw [e] at g; exact fun σ' v F' H' r' s' rd => g v F' H' s' r'.sub (fin r').1 (fin r').2.1 (fin r').2.2 rd
  | bk ρ => rw [e] at g; exact g.elim
  | ct ρ => rw [e] at g; exact g.elim
  | exc c d ρ => rw [e] at g; exact g.elim
  | stuck => rw [e] at g; exact g.elim
variable {X : Cx} {body : List Stmt} {N : List Str} {n : Nat} {f : MS} {vs : List V} {H : Hp} {Q : VK} {Ex : XK}
theorem fin_IM (pe : PSs X body s1) (hs : ShS K mg (fun _ => Ex) s1 f) (h : spIM K n (runIM N.length f) vs H Q Ex) (hn : n + 2 ≤ N.length) : ∃ t, PSs X body t ∧ t { nx := fun _ H' => Q .non H', rt := Q } (L2.start N vs) H := ⟨s1, pe, body_IM hs h hn⟩
end
/-! what it comes to -/
def OWNM (o : Option D) (N : D → Prop) : Prop := ∃ d, o = some d ∧ N d
theorem w_callIM {f : MFm} {i j : Nat} {m : ME} {ρ : Env} {Q : D → Env → Prop} (hij : i ≠ j) (q : MU (mu ρ i) fun _ => Sat (m ρ) fun x ρ1 => MU (mu ρ1 i) fun d0 => OWNM (ownAt ρ1 j) fun dm => SatI (f d0 dm [x]) fun d d' => SETS (putMu (ρ1.set j .no) i d') fun ρ2 => Q d ρ2) : Sat (mCallIM f i j m ρ) Q := by
  obtain ⟨_, e0, x, ρ1, e1, d0, e2, dm, e3, d, d', e4, q⟩ := q
  unfold SETS at q
  refine ⟨d, putMu (ρ1.set j .no) i d', ?_, q⟩
  unfold mCallIM
  rw [e0]
  dsimp only
  rw [e1]
  dsimp only [Res.bind]
  rw [e2]
  dsimp only
  rw [e3]
  dsimp only
  rw [if_neg hij, e4]
  rfl
theorem run_IM {n : Nat} {f : MS} {d0 dm : D} {ds : List D} {Q : D → D → Prop} (q : SatS (f (envIM n d0 dm ds)) (fun ρ => IO ρ (Q .none)) (fun d ρ => IO ρ (Q d)) (fun _ => False) (fun _ => False) (fun _ _ _ => False)) : SatI (runIM n f d0 dm ds) Q := by
  unfold SatI runIM
  cases e : f (envIM n d0 dm ds) with
  | nx ρ =>
    rw [e] at q
    obtain ⟨z, e2, q⟩ := q
    exact ⟨_, z, by dsimp only; unfold ioOf; rw [e2], q⟩
  | rt d ρ =>
    rw [e] at q
    obtain ⟨z, e2, q⟩ := q
    exact ⟨_, z, by dsimp only; unfold ioOf; rw [e2], q⟩
  | _ => rw [e] at q; exact q.elim
end Mi

set_option Elab.async false
set_option linter.all false
set_option maxRecDepth 100000
set_option maxHeartbeats 2000000
namespace Mi
open PySem PySem.Spec PyProof.Rows L2 PpSet
/-! a set made by a block, whatever its members are: o0 the new set, r what set.add comes to -/
def tSX (o0 : Addr → HO) (r : V → List V → Hp → VK → Prop) (wi : TI) (g : L2.TG) (tt : TT) (te : TE) (vs : List Nat) : TE := fun σ H Q =>
  wi σ H fun J Hi => ∀ D, Hi D = none → ∃ Z : Nat → Nat → Hp → Prop, (∃ k, Z 0 k (upd Hi D (o0 D))) ∧
    ∀ i k Ha, Z i k Ha →
      (J.stop i Ha ∧ Q (.ref D) Ha) ∨
      (J.go i Ha ∧ ∃ Nx : Hp → Prop, (∀ Hn, Nx Hn → ∃ l, l < k ∧ Z (i + 1) l Hn) ∧
        ∀ x Hy, J.yld i Ha x Hy → g x (wipe σ vs) Hy fun τ Hb => wipe τ vs = wipe σ vs ∧
          tt τ Hb fun yes Hc => if yes = true then te τ Hc fun y Hd => r (.ref D) [y] Hd fun _ He => Nx He else Nx Hc)
section
variable {X : Cx}
theorem sx_core {o0 : Addr → HO} {r : V → List V → Hp → VK → Prop} {elt tg iter : Expr} {ifs : List Expr} {scope : Scope} {own : List (PySem.Str × Nat)}
    {wi : TI} {g : L2.TG} {tt : TT} {te : TE} {use : Option (Value → Sem Unit)} {Qf : Value → Shared → Prop} {pins : List (Addr × Obj)} {σ : L2.St} {H : Hp} {s : Shared} {Q : VK} {pos pos2 : Pos}
    (hnew : ∀ (Hx : Hp) (h : Heap), ObjOk X.prog X.w Hx (h.push (newSet X.w)) h.objs.size (o0 h.objs.size))
    (hadd : ∀ (t : Shared) (Hx : Hp) (ce : PySem.Env) (fp : List Addr), MtR (X.blk t Hx scope ce fp) "set.add" r)
    (hc : X.calm = true) (hN : X.N.Nodup) (I : Inv X pins σ H s) (ok : BlkOk X.N X.env.scope scope own) (hi : L2.PI X tg iter wi)
    (hg : ∀ (t : Shared) (Hx : Hp) (c : Addr) (l : List (PySem.Str × Addr)) (fp : List Addr), PG (X.blk t Hx scope (compEnvC scope l c X.env) fp) tg g)
    (ht : ∀ (t : Shared) (Hx : Hp) (c : Addr) (l : List (PySem.Str × Addr)) (fp : List Addr), PTs (X.blk t Hx scope (compEnvC scope l c X.env) fp) ifs tt)
    (he : ∀ (t : Shared) (Hx : Hp) (c : Addr) (l : List (PySem.Str × Addr)) (fp : List Addr), PE (X.blk t Hx scope (compEnvC scope l c X.env) fp) elt te)
    (hs : ∀ x, foldedSetIterable iter X.env x = pure x) (h : tSX o0 r wi g tt te (own.map (·.2)) σ H Q)
    (back : ∀ D c t k Hx, Inv X pins σ Hx t → Q (.ref D) Hx → t.heap.Ns c k → FpOk X pins Hx c → compPost (model X.prog X.w) X.A X.xe use Qf (.ref D) c (.ok .next) t) :
    wpAny (model X.prog X.w) X.A (comprehension (.SetComp elt [⟨tg, iter, ifs, 0⟩] scope pos) scope X.env pos2 (PySem.newSet (.type "set")) false (eval iter X.env) use) Qf X.xe s := by
  have cells : ∀ nm ∈ scope.names, nm.2 = .free → ∃ c, X.env.cells.lookup nm.1 = some c := by
    intro nm hnm free
    cases ok.free nm hnm free with
    | inl z => exact I.ok.has _ (.inl z)
    | inr z => exact I.ok.has _ (.inr z)
  refine wpAny_comprehension_free (use := use) rfl hs (closure_ok cells) ok.kind (fun nm hnm q => by rw [ok.uniq nm hnm, q]) (thn (hi.run pins s σ H _ I h) fun v0 s0 h0 => thn h0 fun v1 s1 h1 => ?_)
  obtain ⟨it, fp, tn, J, Hi, rfl, I1, T, at1, fpok, rest⟩ := h1
  refine newSet_ok (newEnv_comp ?_)
  obtain ⟨D, eD⟩ : ∃ D, s1.heap.objs.size = D := ⟨_, rfl⟩
  obtain ⟨Z, ⟨k0, z0⟩, turn⟩ := rest D (I1.hok.fresh (Nat.le_of_eq eD))
  -- the set is laid
  obtain ⟨s2, e2⟩ : ∃ s2 : Shared, ({ s1 with heap := s1.heap.push (newSet X.w) } : Shared) = s2 := ⟨_, rfl⟩
  have hp2 : s2.heap = s1.heap.push (newSet X.w) := by rw [← e2]
  have I2 : Inv X pins σ (upd Hi D (o0 D)) s2 := by
    rw [← e2]
    refine I1.laid (t' := s1.toks) (fun b o q => Heap.get?_push_of_some _ q) (Nat.le_of_eq eD) ?_
    rw [← eD]
    exact hnew _ _
  have below : ∀ b ∈ fp, b < s1.heap.objs.size := by
    intro b hb
    obtain ⟨o, q, _⟩ := T.obj _ _ at1 b hb
    exact Heap.lt_size q
  have fp2 : ∀ b ∈ fp, FpOk X pins (upd Hi D (o0 D)) b ∧ b < s2.heap.objs.size := by
    intro b hb
    have lt := below b hb
    obtain ⟨u1, u2⟩ := fpok b hb
    refine ⟨⟨?_, u2⟩, by rw [hp2, Heap.size_push]; exact Nat.lt_succ_of_lt lt⟩
    rw [upd_ne (by rw [← eD]; exact Nat.ne_of_lt lt)]
    exact u1
  have none2 : ∀ b ∈ fp, (upd Hi D (o0 D)) b = none := fun b hb => (fp2 b hb).1.1
  have at2 : tn 0 s2.heap := T.keep _ _ _ at1 fun b _ o q => by rw [hp2]; exact Heap.get?_push_of_some _ q
  have I3 := block_start I2 ok hN fp2
  obtain ⟨cl, ecl⟩ : ∃ cl, cellsFrom (s2.heap.objs.size + 1) scope.names (cloFrom X.env.cells scope.names []) = cl := ⟨_, rfl⟩
  have pg := hg s2 (upd Hi D (o0 D)) s2.heap.objs.size cl fp
  have pt := ht s2 (upd Hi D (o0 D)) s2.heap.objs.size cl fp
  have pe := he s2 (upd Hi D (o0 D)) s2.heap.objs.size cl fp
  have ecl2 := ecl
  rw [← e2] at ecl2
  show codeAny _ _ (.compStart (.SetComp elt [⟨tg, iter, ifs, 0⟩] scope pos) 0 (.ref it) (.ref s1.heap.objs.size) (compEnvC scope _ _ X.env)) (compPost (model X.prog X.w) X.A X.xe use Qf (.ref s1.heap.objs.size) _) _
  rw [eD, show ({ s1 with heap := s1.heap.push { cls := .type "set", dict := none, data := .set #[] 0 (.fresh 0 0 (!X.w.params.followText "set-order")) } } : Shared) = s2 from e2]
  rw [ecl] at I3 ⊢
  show codeAny _ _ (.compStart (.SetComp elt [⟨tg, iter, ifs, 0⟩] scope pos) 0 (.ref it) (.ref D) (compEnvC scope cl s2.heap.objs.size X.env)) (compPost (model X.prog X.w) X.A X.xe use Qf (.ref D) s2.heap.objs.size) _
  obtain ⟨ce, ece⟩ : ∃ ce, compEnvC scope cl s2.heap.objs.size X.env = ce := ⟨_, rfl⟩
  rw [ece] at I3 pg pt pe ⊢
  have loc : ce.locals = s2.heap.objs.size := by rw [← ece]; rfl
  obtain ⟨H2, eH⟩ : ∃ H2, upd Hi D (o0 D) = H2 := ⟨_, rfl⟩
  rw [eH] at I2 I3 pg pt pe z0 none2 fp2
  obtain ⟨s3, e3⟩ : ∃ s3 : Shared, ({ s2 with heap := pushCells (s2.heap.push { cls := .type "dict", data := .dict #[] }) scope.names } : Shared) = s3 := ⟨_, rfl⟩
  rw [show ({ s2 with heap := pushCells (s2.heap.push { cls := .type "dict", data := .dict #[] }) scope.names } : Shared) = s3 from e3] at I3 ⊢
  have at3 : tn 0 s3.heap := T.keep _ _ _ at2 fun b _ o q => by rw [← e3]; exact pushCells_keeps _ _ _ _ (Heap.get?_push_of_some _ q)
  have still : ∀ {τ : L2.St} {Hx : Hp} {t : Shared}, Inv (X.blk s2 H2 scope ce fp) [] τ Hx t → (∀ b ∈ fp, Hx b = none) → ∀ b ∈ fp, FpOk (X.blk s2 H2 scope ce fp) [] Hx b := by
    intro τ Hx t I' hn b hb
    obtain ⟨q1, q2⟩ := I'.ok.exf b hb
    exact ⟨hn b hb, q1, I'.ok.exfs b hb, .inl hb, fun x c e => q2 x c e, fun p hp => absurd (show p ∈ ([] : List (Addr × Obj)) ++ [] from hp) (by simp)⟩
  refine codeAny_compStart_set (h0 := ?lp) (h := T.self X.A 0 _ _ _ at3 ?lp)
  refine compLoopS_any (fun k t => ∃ i Hx, Inv (X.blk s2 H2 scope ce fp) [] (wipe σ (own.map (·.2))) Hx t ∧ tn i t.heap ∧ (∀ b ∈ fp, Hx b = none) ∧ Z i k Hx) ?_ k0 ⟨0, H2, I3, at3, none2, z0⟩
  rintro k t ⟨i, Hx, Ix, atx, nx, zx⟩
  rcases turn i k Hx zx with ⟨stop, fin⟩ | ⟨go, Nx, less, step⟩
  · refine thnF (T.done (X.blk s2 H2 scope ce fp) rfl rfl rfl hc i [] t _ Hx (fun _ _ => False) Ix (still Ix nx) atx stop) fun o u ⟨eo, Iu⟩ => ?_
    subst eo
    have Iv : Inv X pins σ Hx u := by
      refine I2.call' (ch := fp) Iu.os Iu.base Iu.hok Iu.bare fun b hb => ?_
      obtain ⟨⟨_, q2, q3, q4, q5, q6⟩, _⟩ := fp2 b hb
      exact ⟨q4, q2, q5, q6⟩
    have nl : Hx s2.heap.objs.size = none := by
      have : Hx ce.locals = none := Iu.free
      rwa [loc] at this
    obtain ⟨l, hl, _⟩ := Iu.loc
    have hl : u.heap.Ns ce.locals l := hl
    rw [loc] at hl
    exact back D _ u l Hx Iv fin hl (I2.fpOk (Nat.le_refl _) nl)
  · refine thnF (T.item (X.blk s2 H2 scope ce fp) rfl rfl rfl hc i [] t _ Hx (fun _ _ => False) Ix (still Ix nx) atx go) fun o u ⟨v, eo, hu⟩ => ?_
    subst eo
    refine thnF hu fun _ t2 ⟨x, Hy, Iy, ry, yl, at4, n4⟩ => ?_
    refine thnF (pg.run _ t2 _ Hy x v _ (Iy.pinned (still Iy n4) (T.obj _ _ at4)) ry (step x Hy yl)) fun _ t3 ⟨τ, Hb, Ib, wb, qb⟩ => ?_
    refine thnF (pt.run _ t3 τ Hb _ Ib qb) fun yes t4 ⟨Hc, Ic, qc⟩ => ?_
    have fin : ∀ {t' : Shared} {H' : Hp}, Inv (X.blk s2 H2 scope ce fp) ([] ++ pinsAt fp t2.heap) τ H' t' → Nx H' →
        ∃ l, l < k ∧ ∃ i Hx, Inv (X.blk s2 H2 scope ce fp) [] (wipe σ (own.map (·.2))) Hx t' ∧ tn i t'.heap ∧ (∀ b ∈ fp, Hx b = none) ∧ Z i l Hx := by
      intro t' H' I' q
      obtain ⟨l, lt, zl⟩ := less H' q
      have kept : ∀ b ∈ fp, ∀ o, t2.heap.get? b = some o → t'.heap.get? b = some o ∧ H' b = none := by
        intro b hb o e
        obtain ⟨a1, a2, _⟩ := I'.pin (b, o) (List.mem_append_right _ (List.mem_append_right _ (mem_pinsAt hb e)))
        exact ⟨a1, a2⟩
      refine ⟨l, lt, i + 1, H', (I'.unpinned (pins := [])).weak (by rw [← wb, wipe_length]) (fun j w e => ?_), T.keep _ _ _ at4 fun b hb o e => (kept b hb o e).1, fun b hb => ?_, zl⟩
      · rw [← wb] at e
        exact (wipe_some e).1
      · obtain ⟨o, e, _⟩ := T.obj _ _ at4 b hb
        exact (kept b hb o e).2
    cases yes with
    | false =>
      rw [if_neg Bool.false_ne_true] at qc ⊢
      exact fin Ic qc
    | true =>
      rw [if_pos rfl] at qc ⊢
      refine thnF (pe.run _ t4 τ Hc _ Ic qc) fun z t5 ⟨y, Hd, Id, rd, qd⟩ => ?_
      refine thnF (hadd s2 H2 ce fp _ t5 τ Hd (.ref D) [y] (.ref D) [z] _ Id rfl (.cons rd .nil) qd) fun _ t6 ⟨_, He, Ie, _, qe⟩ => fin Ie qe
theorem pe_sx {o0 : Addr → HO} {r : V → List V → Hp → VK → Prop} {elt tg iter : Expr} {ifs : List Expr} {scope : Scope} {own : List (PySem.Str × Nat)} {pos : Pos} {wi : TI} {g : L2.TG} {tt : TT} {te : TE}
    (hnew : ∀ (Hx : Hp) (h : Heap), ObjOk X.prog X.w Hx (h.push (newSet X.w)) h.objs.size (o0 h.objs.size))
    (hadd : ∀ (t : Shared) (Hx : Hp) (ce : PySem.Env) (fp : List Addr), MtR (X.blk t Hx scope ce fp) "set.add" r)
    (hc : X.calm = true) (hN : X.N.Nodup) (hi : L2.PI X tg iter wi) (ok : BlkOk X.N X.env.scope scope own)
    (hg : ∀ (t : Shared) (Hx : Hp) (c : Addr) (l : List (PySem.Str × Addr)) (fp : List Addr), PG (X.blk t Hx scope (compEnvC scope l c X.env) fp) tg g)
    (ht : ∀ (t : Shared) (Hx : Hp) (c : Addr) (l : List (PySem.Str × Addr)) (fp : List Addr), PTs (X.blk t Hx scope (compEnvC scope l c X.env) fp) ifs tt)
    (he : ∀ (t : Shared) (Hx : Hp) (c : Addr) (l : List (PySem.Str × Addr)) (fp : List Addr), PE (X.blk t Hx scope (compEnvC scope l c X.env) fp) elt te)
    (hs : ∀ x, foldedSetIterable iter X.env x = pure x := by intro _; rfl) : PE X (.SetComp elt [⟨tg, iter, ifs, 0⟩] scope pos) (tSX o0 r wi g tt te (own.map (·.2))) := by
  constructor
  intro pins s σ H Q I h
  rw [eval_SetComp]
  refine sx_core hnew hadd hc hN I ok hi hg ht he hs h fun D c t k Hx I' q hk f => ⟨k, hk, fun h2 sb => ?_⟩
  obtain ⟨q0, q1, q2, q3, q4, q5⟩ := f
  exact ⟨.ref D, Hx, I'.turned (t' := t.toks) (fun b o hb e => (sb.2 b hb).trans e) q0 q1 q3 q4 q5, rfl, q⟩
end

/-! sorted({elt for x in ..}), the members ints, fewer than 64 -/
def mScL (tg : MG) (mt : MT) (me : ME) (vs : List Nat) : List D → List Int → Env → Res (List Int × Env)
  | [], acc, ρ => .ok (acc, ρ)
  | x :: xs, acc, ρ => match tg x ρ with
    | none => .stuck
    | some ρ1 => (mt ρ1).nx.bind fun p => if p.1 = true then (me p.2).nx.bind fun q => match q.1 with
        | .int k => if acc.length < 63 ∧ vs.all (notIo q.2) = true then mScL tg mt me vs xs (acc ++ [k]) (wipeE q.2 vs) else .stuck
        | _ => .stuck
      else if vs.all (notIo p.2) = true then mScL tg mt me vs xs acc (wipeE p.2 vs) else .stuck
def mScJ (it : MA) (tg : MG) (mt : MT) (me : ME) (vs : List Nat) : ME := fun ρ => (it ρ).bind fun p =>
  if vs.all (notIo p.2) = true then (mScL tg mt me vs p.1 [] (wipeE p.2 vs)).bind fun q => .ok (.list ((ssI q.1).map .int), restE p.2 q.2 vs) else .stuck
abbrev setE (w : World) (D : Addr) : HO := SetO w D (fun _ => false) 0
theorem setE_new (P : Program) (w : World) (Hx : Hp) (h : Heap) : ObjOk P w Hx (h.push (newSet w)) h.objs.size (setE w h.objs.size) := setO_new (setR_fresh w)
section
variable {K : PySem.W.Frag} {mg : Str → Option Value} {E : L2.St → XK} {t : TT} {te : TE} {m : ME} {mt : MT} {w : World}
theorem shf_scj {wi : TI} {g : L2.TG} {it : MA} {tg : MG} {vs : List Nat} (hi : ShI K mg E wi it) {ts : List Nat} (hg : ShG K g tg ts) (sub : ∀ i ∈ ts, i ∈ vs) (ht : ShT K mg E t mt) (he : ShE K mg E te m) :
    ShF K mg E (tCB (rSortedSet w) (tCons (tSX (setE w) (rSAdd w) wi g t te vs) tNil)) (mScJ it tg mt m vs) := by
  intro Φ F σ H ρ Q W r x gg
  have g1 := Good.bind (r := it ρ) gg
  refine hi Φ F σ H ρ _ W r x (g1.mono (fun p gp J F1 H1 r1 s1 wk => ?_) fun _ _ _ w => w)
  intro D nD
  split at gp
  · rename_i ok
    have gp := gp.bind
    have n0 : Φ.H0 D = none := r1.dom D nD
    have nF1 : F1 D = none := r1.sub.free nD
    have n1 : Φ.F0 D = none := r1.sub0.free nF1
    have ni : ∀ k, Φ.io k ≠ some D := fun k z => absurd n0 (r1.io1 k D z).1
    let Fin : List Int × Env → Prop := fun q => ∀ a F2 H2, R K Φ F2 σ H2 (restE p.2 q.2 vs) → Same F F2 → F2 a = none → Φ.H0 a = none →
        (∀ (j : Nat) d, (restE p.2 q.2 vs)[j]? = some (.own d) → σ[j]? ≠ some (some (.ref a))) → OwnR K F2 H2 a (.list ((ssI q.1).map .int)) → Q (.ref a) H2
    let Z : Nat → Hp → Prop := fun i Hx => ∃ F' ρ' S c acc, R K (prot Φ D (SetO w D S c)) F' (L2.wipe σ vs) Hx ρ' ∧ Same F1 F' ∧ (∀ j : Int, S j = true ↔ j ∈ acc) ∧ c ≤ acc.length ∧ acc.length < 64 ∧
        Good (mScL tg mt m vs (p.1.drop i) acc ρ') Fin (up F W)
    refine ⟨fun i n Hx => n = p.1.length - i ∧ Z i Hx, ⟨_, rfl, ?_⟩, ?_⟩
    · obtain ⟨r2, nF, _, ap⟩ := (r1.wipe vs ok).allocO (o := setE w D) nD
      exact ⟨F1, _, _, _, [], r2.protect upd_same nF n0 ap, Same.refl _, by simp, Nat.le_refl _, by simp, gp⟩
    · rintro i n H' ⟨hn, F', ρ', S, c, acc, r', s', mem, hc, hl, g'⟩
      obtain ⟨eD, nF', ap, r''⟩ := r'.unprot (u := SetO w D S c) n0 n1 ni
      have eH : upd H' D (SetO w D S c) = H' := by
        funext b
        by_cases y : b = D
        · subst y; rw [upd_same, eD]
        · rw [upd_ne y]
      rw [eH] at r''
      obtain ⟨w1, w2⟩ := wk F' H' s' r'.sub i
      cases e : p.1[i]? with
      | none =>
        refine .inl ⟨w2 e, ?_⟩
        rw [List.drop_eq_nil_of_le (List.getElem?_eq_none_iff.mp e)] at g'
        have r3 := r1.rest r'' s' ok
        refine ⟨D, S, c, rfl, eD, by omega, fun ns' q hpw hmem hlen hq => ?_⟩
        have : ns' = ssI acc := asc_ext hpw (ssI_pw acc) fun z => by rw [hmem, mem_ssI]; exact mem z
        subst this
        obtain ⟨r4, nF, n0', ap'⟩ := r3.allocO (o := .lst ((ssI acc).map V.int)) hq
        exact g' q _ _ r4 (s1.trans s') nF n0' ap' ⟨_, upd_same, RpA.ofInts _⟩
      | some d =>
        obtain ⟨go, yld⟩ := w1 d e
        have hlt : i < p.1.length := (List.getElem?_eq_some_iff.mp e).1
        rw [drop_get e] at g'
        unfold mScL at g'
        cases z : tg d ρ' with
        | none => rw [z] at g'; exact g'.elim
        | some ρ2 =>
          rw [z] at g'
          have g2 := Good.nx (W' := fun _ _ _ => False) (Good.bind (r := (mt ρ2).nx) g')
          refine .inr ⟨go, Z (i + 1), fun H3 z3 => ⟨_, by subst hn; omega, rfl, z3⟩, fun v H3 y => ?_⟩
          obtain ⟨F2, yl, rv⟩ := yld v H3 y
          obtain ⟨r2, s2⟩ := r'.yl yl
          refine hg _ F2 _ H3 ρ' ρ2 v d _ r2 rv z fun σ2 r3 tch => ?_
          have ew : L2.wipe σ2 vs = L2.wipe σ vs := by rw [wipe_eq sub tch, wipe_wipe]
          refine ⟨ew, ht _ F2 σ2 H3 ρ2 _ (fun _ _ _ _ => False) r3 xw_false (g2.mono (fun q gq F4 H4 r4 s4 => ?_) fun _ _ _ w => w.elim)⟩
          by_cases c1 : q.1 = true
          · rw [if_pos c1] at gq ⊢
            have g3 := Good.nx (W' := fun _ _ _ => False) (Good.bind (r := (m q.2).nx) gq)
            refine he _ F4 σ2 H4 q.2 _ (fun _ _ _ _ => False) r4 xw_false (g3.mono (fun wd gw y F5 H5 r5 s5 ry => ?_) fun _ _ _ w => w.elim)
            obtain ⟨dd, ρ5⟩ := wd
            cases dd with
            | int k =>
              dsimp only at gw ry r5
              split at gw
              · rename_i hz
                have r6 := r5.wipe vs hz.2
                rw [ew] at r6
                obtain ⟨eD5, nF5, ap5, r7⟩ := r6.unprot (u := SetO w D (fun j => S j || decide (j = k)) (if S k = true then c else c + 1)) n0 n1 ni
                cases ry
                refine ⟨D, k, S, c, rfl, rfl, eD5, by unfold scanBound; omega, F5, _, _, _, acc ++ [k], r7.protect upd_same nF5 n0 ap5, ((s'.trans s2).trans s4).trans s5, fun j => ?_, ?_, ?_, gw⟩
                · rw [Bool.or_eq_true, mem j, List.mem_append, List.mem_singleton, decide_eq_true_eq]
                · rw [List.length_append, List.length_singleton]; split <;> omega
                · rw [List.length_append, List.length_singleton]; omega
              · exact gw.elim
            | _ => exact gw.elim
          · rw [if_neg c1] at gq ⊢
            split at gq
            · rename_i hz
              have r6 := r4.wipe vs hz
              rw [ew] at r6
              exact ⟨F4, _, S, c, acc, r6, (s'.trans s2).trans s4, mem, hc, hl, gq⟩
            · exact gq.elim
  · exact gp.elim
end

section
variable {m : ME} {mt : MT} {tg : MG} {vs : List Nat} {ρ : Env} {Q : D → Env → Prop}
theorem mLcL_pre : ∀ {xs : List D} {acc ds : List D} {ρ ρ2 : Env}, mLcL tg mt m vs xs acc ρ = .ok (ds, ρ2) → ∃ t, ds = acc ++ t
  | [], acc, ds, ρ, ρ2, h => by
    cases h
    exact ⟨[], by simp⟩
  | x :: xs, acc, ds, ρ, ρ2, h => by
    unfold mLcL at h
    cases e1 : tg x ρ with
    | none => rw [e1] at h; cases h
    | some ρ1 =>
      rw [e1] at h
      dsimp only at h
      cases e2 : (mt ρ1).nx with
      | exc a b c => rw [e2] at h; cases h
      | stuck => rw [e2] at h; cases h
      | ok p =>
        rw [e2] at h
        dsimp only [Res.bind] at h
        split at h
        · cases e3 : (m p.2).nx with
          | exc a b c => rw [e3] at h; cases h
          | stuck => rw [e3] at h; cases h
          | ok q =>
            rw [e3] at h
            dsimp only [Res.bind] at h
            split at h
            · obtain ⟨t, rfl⟩ := mLcL_pre h
              exact ⟨q.1 :: t, by simp⟩
            · cases h
        · split at h
          · exact mLcL_pre h
          · cases h
theorem ints_cut {acc ns : List Int} {d : D} {t : List D} (e : ns.map PyData.int = acc.map PyData.int ++ [d] ++ t) : ∃ k, d = .int k := by
  have h : d ∈ ns.map PyData.int := by rw [e]; simp
  obtain ⟨k, _, rfl⟩ := List.mem_map.mp h
  exact ⟨k, rfl⟩
theorem mScL_of : ∀ {xs : List D} {acc ns : List Int} {ρ ρ2 : Env}, ns.length < 64 → mLcL tg mt m vs xs (acc.map PyData.int) ρ = .ok (ns.map PyData.int, ρ2) → mScL tg mt m vs xs acc ρ = .ok (ns, ρ2)
  | [], acc, ns, ρ, ρ2, hl, h => by
    unfold mLcL at h
    have h1 := (Prod.mk.inj (Res.ok.inj h)).1
    have h2 := (Prod.mk.inj (Res.ok.inj h)).2
    have : acc = ns := by have z := congrArg intsD h1; rw [intsD_map, intsD_map] at z; exact Option.some.inj z
    subst this h2
    rfl
  | x :: xs, acc, ns, ρ, ρ2, hl, h => by
    unfold mLcL at h
    unfold mScL
    cases e1 : tg x ρ with
    | none => rw [e1] at h; cases h
    | some ρ1 =>
      rw [e1] at h
      dsimp only at h ⊢
      cases e2 : (mt ρ1).nx with
      | exc a b c => rw [e2] at h; cases h
      | stuck => rw [e2] at h; cases h
      | ok p =>
        rw [e2] at h
        dsimp only [Res.bind] at h ⊢
        split at h
        · rw [if_pos (by assumption)]
          cases e3 : (m p.2).nx with
          | exc a b c => rw [e3] at h; cases h
          | stuck => rw [e3] at h; cases h
          | ok q =>
            rw [e3] at h
            obtain ⟨d, ρ3⟩ := q
            dsimp only [Res.bind] at h ⊢
            split at h
            · rename_i hz
              obtain ⟨t, et⟩ := mLcL_pre h
              obtain ⟨k, rfl⟩ := ints_cut et
              have hlen : ns.length = acc.length + 1 + t.length := by
                have := congrArg List.length et
                simp only [List.length_map, List.length_append, List.length_singleton] at this
                exact this
              dsimp only
              rw [if_pos ⟨by omega, hz.2⟩]
              refine mScL_of hl ?_
              rw [List.map_append]
              exact h
            · cases h
        · rw [if_neg (by assumption)]
          split at h
          · rw [if_pos (by assumption)]
            exact mScL_of hl h
          · cases h
def SCN (ds : List D) (N : List Int → Prop) : Prop := ∃ ns : List Int, ds = ns.map .int ∧ ns.length < 64 ∧ N ns
theorem w_scj {it : MA} (q : SatA (it ρ) fun xs ρ1 => LCB ρ1 vs fun ρ0 => LCW tg mt m vs xs [] ρ0 fun ds ρ2 => SCN ds fun ns => WIPE (restE ρ1 ρ2 vs) fun ρ3 => Q (.list ((ssI ns).map .int)) ρ3) : Sat (mScJ it tg mt m vs ρ) Q := by
  obtain ⟨xs, ρ1, e1, h, ds, ρ2, e2, ns, rfl, hl, q⟩ := q
  have e3 := mScL_of (acc := []) hl e2
  exact ⟨_, _, by unfold mScJ; rw [e1]; dsimp only [Res.bind]; rw [if_pos h, e3], q⟩
theorem pe_scS {X : Cx} {elt tg iter : Expr} {ifs : List Expr} {scope : Scope} {own : List (PySem.Str × Nat)} {pos : Pos} {wi : TI} {g : L2.TG} {tt : TT} {te : TE}
    (hc : X.calm = true) (hN : X.N.Nodup) (hi : L2.PI X tg iter wi) (ok : BlkOk X.N X.env.scope scope own)
    (hg : ∀ (t : Shared) (Hx : Hp) (c : Addr) (l : List (PySem.Str × Addr)) (fp : List Addr), PG (X.blk t Hx scope (compEnvC scope l c X.env) fp) tg g)
    (ht : ∀ (t : Shared) (Hx : Hp) (c : Addr) (l : List (PySem.Str × Addr)) (fp : List Addr), PTs (X.blk t Hx scope (compEnvC scope l c X.env) fp) ifs tt)
    (he : ∀ (t : Shared) (Hx : Hp) (c : Addr) (l : List (PySem.Str × Addr)) (fp : List Addr), PE (X.blk t Hx scope (compEnvC scope l c X.env) fp) elt te)
    (hs : ∀ x, foldedSetIterable iter X.env x = pure x := by intro _; rfl) : PE X (.SetComp elt [⟨tg, iter, ifs, 0⟩] scope pos) (tSX (setE X.w) (rSAdd X.w) wi g tt te (own.map (·.2))) :=
  pe_sx (fun _ _ => setE_new _ _ _ _) (fun _ _ _ _ => mt_sadd) hc hN hi ok hg ht he hs
end
end Mi

set_option Elab.async false
set_option linter.all false
set_option maxRecDepth 100000
/-! [elt for x in .. for y in ..] -/
namespace Mi
open PySem PySem.Spec PyProof.Rows L2
def mLc2L (tg : MG) (mt : MT) (it1 : MA) (tg1 : MG) (mt1 : MT) (me : ME) (vs vs1 : List Nat) : List D → List D → Env → Res (List D × Env)
  | [], acc, ρ => .ok (acc, ρ)
  | x :: xs, acc, ρ => match tg x ρ with
    | none => .stuck
    | some ρ1 => (mt ρ1).nx.bind fun p =>
      if p.1 = true then (it1 p.2).nx.bind fun q =>
        if vs1.all (notIo q.2) = true then (mLcL tg1 mt1 me vs1 q.1 acc (wipeE q.2 vs1)).bind fun z =>
          if vs.all (notIo z.2) = true then mLc2L tg mt it1 tg1 mt1 me vs vs1 xs z.1 (wipeE z.2 vs) else .stuck
        else .stuck
      else if vs.all (notIo p.2) = true then mLc2L tg mt it1 tg1 mt1 me vs vs1 xs acc (wipeE p.2 vs) else .stuck
def mLc2 (it : MA) (tg : MG) (mt : MT) (it1 : MA) (tg1 : MG) (mt1 : MT) (me : ME) (vs vs1 : List Nat) : ME := fun ρ => (it ρ).bind fun p =>
  if vs.all (notIo p.2) = true then (mLc2L tg mt it1 tg1 mt1 me vs vs1 p.1 [] (wipeE p.2 vs)).bind fun q => .ok (.list q.1, restE p.2 q.2 vs) else .stuck
section
variable {K : PySem.W.Frag} {mg : Str → Option Value} {E : L2.St → XK} {t t1 : TT} {te : TE} {m : ME} {mt mt1 : MT}
theorem shf_lc2 {wi wi1 : TI} {g g1 : L2.TG} {it it1 : MA} {tg tg1 : MG} {vs vs1 : List Nat} (hi : ShI K mg E wi it) {ts ts1 : List Nat} (hg : ShG K g tg ts) (sub : ∀ i ∈ ts, i ∈ vs) (ht : ShT K mg E t mt)
    (hi1 : ShI K mg E wi1 it1) (hg1 : ShG K g1 tg1 ts1) (sub1 : ∀ i ∈ ts1, i ∈ vs1) (ssub : ∀ i ∈ vs1, i ∈ vs) (ht1 : ShT K mg E t1 mt1) (he : ShE K mg E te m) :
    ShF K mg E (tLc2 wi g t wi1 g1 t1 te vs vs1) (mLc2 it tg mt it1 tg1 mt1 m vs vs1) := by
  intro Φ F σ H ρ Q W r x gg
  have g0 := Good.bind (r := it ρ) gg
  refine hi Φ F σ H ρ _ W r x (g0.mono (fun p gp J F1 H1 r1 s1 wk => ?_) fun _ _ _ w => w)
  intro D nD
  split at gp
  · rename_i ok
    have gp := gp.bind
    have n0 : Φ.H0 D = none := r1.dom D nD
    have nF1 : F1 D = none := r1.sub.free nD
    have n1 : Φ.F0 D = none := r1.sub0.free nF1
    have ni : ∀ k, Φ.io k ≠ some D := fun k z => absurd n0 (r1.io1 k D z).1
    let Fin : List PyData × Env → Prop := fun q => ∀ a F2 H2, R K Φ F2 σ H2 (restE p.2 q.2 vs) → Same F F2 → F2 a = none → Φ.H0 a = none →
        (∀ (j : Nat) d, (restE p.2 q.2 vs)[j]? = some (.own d) → σ[j]? ≠ some (some (.ref a))) → OwnR K F2 H2 a (.list q.1) → Q (.ref a) H2
    let Z : Nat → Hp → Prop := fun i Hx => ∃ F' ρ' vacc acc, R K (prot Φ D (.lst vacc)) F' (L2.wipe σ vs) Hx ρ' ∧ Same F1 F' ∧ RpA K F' vacc acc ∧
        Good (mLc2L tg mt it1 tg1 mt1 m vs vs1 (p.1.drop i) acc ρ') Fin (up F W)
    refine ⟨fun i n Hx => n = p.1.length - i ∧ Z i Hx, ⟨_, rfl, ?_⟩, ?_⟩
    · obtain ⟨r2, nF, _, ap⟩ := (r1.wipe vs ok).allocO (o := .lst []) nD
      exact ⟨F1, _, _, [], r2.protect upd_same nF n0 ap, Same.refl _, .nil, gp⟩
    · rintro i n H' ⟨hn, F', ρ', vacc, acc, r', s', ra, g'⟩
      obtain ⟨eD, nF', ap, r''⟩ := r'.unprot (u := .lst vacc) n0 n1 ni
      have eH : upd H' D (.lst vacc) = H' := by
        funext b
        by_cases y : b = D
        · subst y; rw [upd_same, eD]
        · rw [upd_ne y]
      rw [eH] at r''
      obtain ⟨w1, w2⟩ := wk F' H' s' r'.sub i
      cases e : p.1[i]? with
      | none =>
        refine .inl ⟨w2 e, ?_⟩
        rw [List.drop_eq_nil_of_le (List.getElem?_eq_none_iff.mp e)] at g'
        have r3 := r1.rest r'' s' ok
        refine g' D F' H' r3 (s1.trans s') nF' n0 (fun j d q z => ?_) ⟨vacc, eD, ra⟩
        rcases restE_get p.2 vs q with ⟨_, y | ⟨_, y, _⟩⟩ | ⟨y1, y2⟩
        · cases y
        · cases y
        · exact ap j d y2 (by rw [wipe_out y1]; exact z)
      | some d =>
        obtain ⟨go, yld⟩ := w1 d e
        have hlt : i < p.1.length := (List.getElem?_eq_some_iff.mp e).1
        rw [drop_get e] at g'
        unfold mLc2L at g'
        cases z : tg d ρ' with
        | none => rw [z] at g'; exact g'.elim
        | some ρ2 =>
          rw [z] at g'
          have g2 := Good.nx (W' := fun _ _ _ => False) (Good.bind (r := (mt ρ2).nx) g')
          refine .inr ⟨go, Z (i + 1), fun H3 z3 => ⟨_, by subst hn; omega, rfl, z3⟩, fun v H3 y => ?_⟩
          obtain ⟨F2, yl, rv⟩ := yld v H3 y
          obtain ⟨r2, s2⟩ := r'.yl yl
          refine hg _ F2 _ H3 ρ' ρ2 v d _ r2 rv z fun σ2 r3 tch => ?_
          have ew : L2.wipe σ2 vs = L2.wipe σ vs := by rw [wipe_eq sub tch, wipe_wipe]
          refine ⟨ew, ht _ F2 σ2 H3 ρ2 _ (fun _ _ _ _ => False) r3 xw_false (g2.mono (fun q gq F4 H4 r4 s4 => ?_) fun _ _ _ w => w.elim)⟩
          by_cases c : q.1 = true
          · rw [if_pos c] at gq ⊢
            have g3 := Good.nx (W' := fun _ _ _ => False) (Good.bind (r := (it1 q.2).nx) gq)
            refine hi1 _ F4 σ2 H4 q.2 _ (fun _ _ _ _ => False) r4 xw_false (g3.mono (fun p1 gp1 J1 F5 H5 r5 s5 wk1 => ?_) fun _ _ _ w => w.elim)
            split at gp1
            · rename_i ok1
              have gp1 := gp1.bind
              let Fin1 : List PyData × Env → Prop := fun z => Good (if vs.all (notIo z.2) = true then mLc2L tg mt it1 tg1 mt1 m vs vs1 (p.1.drop (i + 1)) z.1 (wipeE z.2 vs) else .stuck) Fin (up F W)
              let Z1 : Nat → Hp → Prop := fun j Hx => ∃ F' ρ' vacc acc, R K (prot Φ D (.lst vacc)) F' (L2.wipe σ2 vs1) Hx ρ' ∧ Same F5 F' ∧ RpA K F' vacc acc ∧ Good (mLcL tg1 mt1 m vs1 (p1.1.drop j) acc ρ') Fin1 (up F W)
              have big : Same F1 F5 := ((s'.trans s2).trans s4).trans s5
              refine ⟨fun j k Hx => k = p1.1.length - j ∧ Z1 j Hx, ⟨_, rfl, ?_⟩, ?_⟩
              · exact ⟨F5, _, vacc, acc, r5.wipe vs1 ok1, Same.refl _, ra.mono ((s2.trans s4).trans s5), gp1⟩
              · rintro j k H6 ⟨hk, F6, ρ6, vacc6, acc6, r6, s6, ra6, g6⟩
                obtain ⟨w3, w4⟩ := wk1 F6 H6 s6 r6.sub j
                cases e1 : p1.1[j]? with
                | none =>
                  refine .inl ⟨w4 e1, ?_⟩
                  rw [List.drop_eq_nil_of_le (List.getElem?_eq_none_iff.mp e1)] at g6
                  have g6 : Good (if vs.all (notIo ρ6) = true then mLc2L tg mt it1 tg1 mt1 m vs vs1 (p.1.drop (i + 1)) acc6 (wipeE ρ6 vs) else .stuck) Fin (up F W) := g6
                  split at g6
                  · rename_i ok6
                    have r7 := r6.wipe vs ok6
                    rw [show L2.wipe (L2.wipe σ2 vs1) vs = L2.wipe σ vs by
                      rw [← ew]
                      exact wipe_eq ssub ⟨L2.wipe_length .., fun b hb => wipe_out hb⟩] at r7
                    exact ⟨F6, _, vacc6, acc6, r7, big.trans s6, ra6, g6⟩
                  · exact g6.elim
                | some d1 =>
                  obtain ⟨go1, yld1⟩ := w3 d1 e1
                  have hlt1 : j < p1.1.length := (List.getElem?_eq_some_iff.mp e1).1
                  rw [drop_get e1] at g6
                  unfold mLcL at g6
                  cases z1 : tg1 d1 ρ6 with
                  | none => rw [z1] at g6; exact g6.elim
                  | some ρ7 =>
                    rw [z1] at g6
                    have g7 := Good.nx (W' := fun _ _ _ => False) (Good.bind (r := (mt1 ρ7).nx) g6)
                    refine .inr ⟨go1, Z1 (j + 1), fun H3 z3 => ⟨_, by subst hk; omega, rfl, z3⟩, fun v1 H8 y1 => ?_⟩
                    obtain ⟨F8, yl8, rv8⟩ := yld1 v1 H8 y1
                    obtain ⟨r8, s8⟩ := r6.yl yl8
                    refine hg1 _ F8 _ H8 ρ6 ρ7 v1 d1 _ r8 rv8 z1 fun σ3 r9 tch1 => ?_
                    have ew1 : L2.wipe σ3 vs1 = L2.wipe σ2 vs1 := by rw [wipe_eq sub1 tch1, wipe_wipe]
                    refine ⟨ew1, ht1 _ F8 σ3 H8 ρ7 _ (fun _ _ _ _ => False) r9 xw_false (g7.mono (fun q1 gq1 F9 H9 r10 s9 => ?_) fun _ _ _ w => w.elim)⟩
                    by_cases c1 : q1.1 = true
                    · rw [if_pos c1] at gq1 ⊢
                      have g8 := Good.nx (W' := fun _ _ _ => False) (Good.bind (r := (m q1.2).nx) gq1)
                      refine he _ F9 σ3 H9 q1.2 _ (fun _ _ _ _ => False) r10 xw_false (g8.mono (fun wd gw y F10 H10 r11 s10 ry => ?_) fun _ _ _ w => w.elim)
                      split at gw
                      · rename_i hz
                        have r12 := r11.wipe vs1 hz.2
                        rw [ew1] at r12
                        obtain ⟨eDn, nFn, apn, r13⟩ := r12.unprot (u := .lst (vacc6 ++ [y])) n0 n1 ni
                        exact ⟨vacc6, eDn, by rw [ra6.length, sizeLine_eq]; exact hz.1, F10, _, vacc6 ++ [y], acc6 ++ [wd.1], r13.protect upd_same nFn n0 apn, ((s6.trans s8).trans s9).trans s10, (ra6.mono ((s8.trans s9).trans s10)).append (.cons ry .nil), gw⟩
                      · exact gw.elim
                    · rw [if_neg c1] at gq1 ⊢
                      split at gq1
                      · rename_i hz
                        have r12 := r10.wipe vs1 hz
                        rw [ew1] at r12
                        exact ⟨F9, _, vacc6, acc6, r12, (s6.trans s8).trans s9, ra6.mono (s8.trans s9), gq1⟩
                      · exact gq1.elim
            · exact gp1.elim
          · rw [if_neg c] at gq ⊢
            split at gq
            · rename_i hz
              have r6 := r4.wipe vs hz
              rw [ew] at r6
              exact ⟨F4, _, vacc, acc, r6, (s'.trans s2).trans s4, ra.mono (s2.trans s4), gq⟩
            · exact gq.elim
  · exact gp.elim
end

section
variable {tg tg1 : MG} {mt mt1 : MT} {it it1 : MA} {m : ME} {vs vs1 : List Nat} {ρ : Env} {Q : D → Env → Prop} {QA : List D → Env → Prop}
def LC2W (tg : MG) (mt : MT) (it1 : MA) (tg1 : MG) (mt1 : MT) (me : ME) (vs vs1 : List Nat) (xs acc : List D) (ρ : Env) (Q : List D → Env → Prop) : Prop := SatA (mLc2L tg mt it1 tg1 mt1 me vs vs1 xs acc ρ) Q
theorem w_lc2 (q : SatA (it ρ) fun xs ρ1 => LCB ρ1 vs fun ρ0 => LC2W tg mt it1 tg1 mt1 m vs vs1 xs [] ρ0 fun ds ρ2 => WIPE (restE ρ1 ρ2 vs) fun ρ3 => Q (.list ds) ρ3) : Sat (mLc2 it tg mt it1 tg1 mt1 m vs vs1 ρ) Q := by
  obtain ⟨xs, ρ1, e1, h, ds, ρ2, e2, q⟩ := q
  exact ⟨_, _, by unfold mLc2; rw [e1]; dsimp only [Res.bind]; rw [if_pos h, e2], q⟩
/-- all of f y, y in ys, the slots stay -/
theorem lc2_go {α : Type} (enc : α → D) (f : α → List D)
    (hs : ∀ (y : α) (acc : List D), acc.length < 1000 → TG (tg (enc y) ρ) fun ρ1 => SatT (mt ρ1) fun c ρ2 => c = true ∧ SatA (it1 ρ2) fun zs ρ3 => LCB ρ3 vs1 fun ρ4 => LCW tg1 mt1 m vs1 zs acc ρ4 fun ds ρ5 => ds = acc ++ f y ∧ LCB ρ5 vs fun ρ6 => ρ6 = ρ) :
    ∀ (ys : List α) (acc : List D), (acc ++ ys.flatMap f).length < 1000 → QA (acc ++ ys.flatMap f) ρ → LC2W tg mt it1 tg1 mt1 m vs vs1 (ys.map enc) acc ρ QA
  | [], acc, _, q => by
    rw [List.flatMap_nil, List.append_nil] at q
    exact ⟨_, _, rfl, q⟩
  | y :: ys, acc, hl, q => by
    rw [List.flatMap_cons, ← List.append_assoc] at hl q
    have ih := lc2_go enc f hs ys (acc ++ f y) hl q
    have la : acc.length < 1000 := by
      rw [List.length_append, List.length_append] at hl
      omega
    obtain ⟨ρ1, e1, c, ρ2, e2, rfl, zs, ρ3, e3, ok3, ds, ρ5, e5, rfl, ok5, rfl⟩ := hs y acc la
    unfold LC2W mLc2L
    rw [List.map_cons]
    dsimp only
    rw [e1]
    dsimp only
    rw [e2]
    dsimp only [Res.nx, Res.bind]
    rw [if_pos rfl, e3]
    dsimp only [Res.nx, Res.bind]
    rw [if_pos ok3]
    have e5 : mLcL tg1 mt1 m vs1 zs acc (wipeE ρ3 vs1) = .ok (acc ++ f y, ρ5) := e5
    rw [e5]
    dsimp only [Res.nx, Res.bind]
    rw [if_pos ok5]
    exact ih
end
end Mi

set_option Elab.async false
set_option linter.all false
set_option maxRecDepth 100000
/-! texts: their signs, their order, one within another; a list told several times -/
namespace Mi
open PySem PySem.Spec PyProof.Rows L2
section
variable {K : PySem.W.Frag} {mg : Str → Option Value} {E : L2.St → XK} {te : TE} {m : ME}
def fLeS : D → D → Option D
  | .str a, .str b => some (.bool (!decide (b.cps.toList < a.cps.toList)))
  | _, _ => none
theorem c_leS : OpS K (fun x y H Q => ∃ i j, x = .str i ∧ y = .str j ∧ Q (.bl (!decide (j.cps.toList < i.cps.toList))) H) fLeS := fun F H x y dx dy d Q s rx ry e q => by
  cases rx <;> try (cases e; done)
  cases ry <;> try (cases e; done)
  cases e
  exact ⟨_, _, rfl, rfl, q _ (.bl _)⟩
theorem s_leS : OpSh K (fun x y H Q => ∃ i j, x = .str i ∧ y = .str j ∧ Q (.bl (!decide (j.cps.toList < i.cps.toList))) H) fLeS := c_leS.sh
def inS (a b : Str) : Bool := !(Builtin.Str.occurrences b a 0 b.length 1).isEmpty
def fInS : D → D → Option D
  | .str a, .str b => some (.bool (inS a b))
  | _, _ => none
def fNotInS : D → D → Option D
  | .str a, .str b => some (.bool (!(inS a b)))
  | _, _ => none
theorem s_inS : OpSh K (fun x y H Q => ∃ i j, x = .str i ∧ y = .str j ∧ Q (.bl (!(Builtin.Str.occurrences j i 0 j.length 1).isEmpty)) H) fInS := OpS.sh fun F H x y dx dy d Q s rx ry e q => by
  cases rx <;> try (cases e; done)
  cases ry <;> try (cases e; done)
  cases e
  exact ⟨_, _, rfl, rfl, q _ (.bl _)⟩
theorem s_notInS : OpSh K (fun x y H Q => ∃ i j, x = .str i ∧ y = .str j ∧ Q (.bl (!(!(Builtin.Str.occurrences j i 0 j.length 1).isEmpty))) H) fNotInS := OpS.sh fun F H x y dx dy d Q s rx ry e q => by
  cases rx <;> try (cases e; done)
  cases ry <;> try (cases e; done)
  cases e
  exact ⟨_, _, rfl, rfl, q _ (.bl _)⟩
def fRepL : D → D → Option D
  | .list ds, .int k => if -9223372036854775808 ≤ k ∧ k < 9223372036854775808 ∧ ds.length * k.toNat ≤ 16777216 then some (.list (List.replicate k.toNat ds).flatten) else none
  | _, _ => none
theorem rpa_rep {F : Hp} {xs : List V} {ds : List D} (r : RpA K F xs ds) : ∀ n : Nat, RpA K F (List.replicate n xs).flatten (List.replicate n ds).flatten
  | 0 => .nil
  | n + 1 => by
    rw [List.replicate_succ, List.replicate_succ, List.flatten_cons, List.flatten_cons]
    exact r.append (rpa_rep r n)
theorem f_repL : OpF K rRep fRepL := by
  intro F H x y dx dy d Q s rx ry e q
  cases dx <;> first | (cases e; done) | skip
  cases dy <;> first | (cases e; done) | skip
  rename_i ds k
  have e : (if -9223372036854775808 ≤ k ∧ k < 9223372036854775808 ∧ ds.length * k.toNat ≤ 16777216 then some (PyData.list (List.replicate k.toNat ds).flatten) else none) = some d := e
  split at e
  · rename_i hl
    cases e
    cases rx with
    | lst h1 h2 =>
      cases ry
      exact ⟨_, _, _, rfl, rfl, s _ _ h1, by omega, by omega, by rw [h2.length, sizeLine_eq]; exact hl.2.2, fun p np => q p _ _ np rfl (rpa_rep h2 _)⟩
  · cases e
/-- the signs of a text -/
def signs (x : Str) : List D := x.cps.toList.map fun c => .str ⟨#[c]⟩
def itS (m : ME) : MA := fun ρ => (m ρ).bind fun p => match p.1 with
  | .str x => .ok (signs x, p.2)
  | _ => .stuck
theorem shi_str (h : ShE K mg E te m) : ShI K mg E (iStr te) (itS m) := by
  intro Φ F σ H ρ Rr W r x g
  have g1 := Good.bind (r := m ρ) g
  refine h Φ F σ H ρ _ W r x (g1.mono (fun p gp v F1 H1 r1 s1 rv => ?_) fun _ _ _ w => w)
  obtain ⟨d, ρ'⟩ := p
  cases rv <;> try (exact False.elim gp)
  rename_i x
  have sg : ∀ i : Nat, (signs x)[i]? = (x.cps[i]?).map fun c => .str ⟨#[c]⟩ := fun i => by
    unfold signs
    rw [List.getElem?_map, Array.getElem?_toList]
  refine ⟨x, rfl, gp _ F1 H1 r1 s1 fun F2 H2 sa sb i => ⟨fun d e => ?_, fun e => ?_⟩⟩
  · have e : (signs x)[i]? = some d := e
    rw [sg] at e
    cases hc : x.cps[i]? with
    | none => rw [hc] at e; cases e
    | some c =>
      rw [hc] at e
      cases e
      refine ⟨(Array.getElem?_eq_some_iff.mp hc).1, ?_⟩
      rintro z H' ⟨rfl, c', e', rfl⟩
      rw [hc] at e'
      cases e'
      exact ⟨F2, .inl ⟨rfl, rfl⟩, .str _⟩
  · have e : (signs x)[i]? = none := e
    rw [sg] at e
    cases hc : x.cps[i]? with
    | some c => rw [hc] at e; cases e
    | none => exact Array.getElem?_eq_none_iff.mp hc
end
/-! what it comes to -/
def ISSt (d : D) (N : List D → Prop) : Prop := ∃ x, d = .str x ∧ N (signs x)
theorem isst {x : Str} {N : List D → Prop} (q : N (signs x)) : ISSt (.str x) N := ⟨x, rfl, q⟩
theorem w_itS1 {m : ME} {ρ : Env} {QA : List D → Env → Prop} (q : Sat (m ρ) fun d ρ1 => ISSt d fun ds => QA ds ρ1) : SatA (itS m ρ) QA := by
  obtain ⟨d, ρ1, e1, x, rfl, q⟩ := q
  exact ⟨_, ρ1, by unfold itS; rw [e1]; rfl, q⟩
theorem v_lenS {x : Str} {Q : D → Prop} (h : x.length ≤ 16777216) (q : Q (.int x.length)) : VAL (cbLenS [.str x]) Q := ⟨_, if_pos h, q⟩
theorem v_leS {a b : Str} {Q : D → Prop} (q : Q (.bool (!decide (b.cps.toList < a.cps.toList)))) : VAL (fLeS (.str a) (.str b)) Q := ⟨_, rfl, q⟩
theorem v_inS {a b : Str} {Q : D → Prop} (q : Q (.bool (inS a b))) : VAL (fInS (.str a) (.str b)) Q := ⟨_, rfl, q⟩
theorem v_ninS {a b : Str} {Q : D → Prop} (q : Q (.bool (!(inS a b)))) : VAL (fNotInS (.str a) (.str b)) Q := ⟨_, rfl, q⟩
theorem v_repL {ds : List D} {k : Int} {Q : D → Prop} (h : -9223372036854775808 ≤ k ∧ k < 9223372036854775808 ∧ ds.length * k.toNat ≤ 16777216) (q : Q (.list (List.replicate k.toNat ds).flatten)) : VAL (fRepL (.list ds) (.int k)) Q := ⟨_, by show (if _ then _ else _) = _; rw [if_pos h], q⟩
end Mi

set_option Elab.async false
set_option linter.all false
set_option maxRecDepth 100000
/-! objects of the program's own classes -/
namespace Mi
open PySem PySem.Spec PyProof.Rows L2
def getF (f : Str) : List (D × D) → Option D
  | [] => none
  | (k, d) :: r => if eqK k (.inr f) = true then some d else getF f r
def setF (f : Str) (z : D) : List (D × D) → List (D × D)
  | [] => [(.str f, z)]
  | (k, d) :: r => if eqK k (.inr f) = true then (k, z) :: r else (k, d) :: setF f z r
abbrev insD (x : Str) (kds : List (D × D)) : D := .tuple [.str x, .dict kds]
def asI (x : Str) : D → Option (List (D × D))
  | .tuple [.str y, .dict kds] => if y = x then some kds else none
  | _ => none
theorem asI_ok {x : Str} {d : D} {kds : List (D × D)} (h : asI x d = some kds) : d = insD x kds := by
  unfold asI at h
  split at h
  · split at h
    · rename_i e; cases h; rw [e]
    · cases h
  · cases h
section
variable {K : PySem.W.Frag} {mg : Str → Option Value} {E : L2.St → XK} {te tv : TE} {tr : TA} {m : ME} {ms : List ME} {x f : Str} {C : Addr}
abbrev kfs (fs : List (Str × V)) : List (Key × V) := fs.map fun p => (Sum.inr p.1, p.2)
theorem eqK_f {k f : Str} : eqK (kD (.inr k)) (.inr f) = decide (k = f) := by
  rw [eqK_kD]
  by_cases h : k = f
  · rw [h, decide_eq_true rfl, decide_eq_true rfl]
  · rw [decide_eq_false h, decide_eq_false (fun e => h (Sum.inr.inj e))]
theorem getF_ok {F : Hp} : ∀ {fs : List (Str × V)} {kds : List (D × D)}, RpK K F (kfs fs) kds → (fs.lookup f = none ∧ getF f kds = none) ∨ ∃ v d, fs.lookup f = some v ∧ getF f kds = some d ∧ Rp K F v d
  | [], _, .nil => .inl ⟨rfl, rfl⟩
  | (k, v) :: fs, _, .cons (d := d) (ds := ds) h r => by
    have e : getF f ((kD (.inr k), d) :: ds) = if decide (k = f) = true then some d else getF f ds := by
      show (if eqK (kD (.inr k)) (.inr f) = true then _ else _) = _
      rw [eqK_f]
    rw [e, List.lookup_cons]
    by_cases hk : k = f
    · subst hk
      rw [if_pos (decide_eq_true rfl), beq_self_eq_true]
      exact .inr ⟨_, _, rfl, rfl, h⟩
    · rw [if_neg (by simpa using hk), show (f == k) = false from beq_false_of_ne fun e => hk e.symm]
      exact getF_ok r
theorem setF_ok {F : Hp} {v : V} {z : D} (hv : Rp K F v z) : ∀ {fs : List (Str × V)} {kds : List (D × D)}, RpK K F (kfs fs) kds → RpK K F (kfs (putF f v fs)) (setF f z kds)
  | [], _, .nil => .cons (k := .inr f) hv .nil
  | (k, w) :: fs, _, .cons (d := d) (ds := ds) h r => by
    show RpK K F (kfs (if k = f then (k, v) :: fs else (k, w) :: putF f v fs)) (if eqK (kD (.inr k)) (.inr f) = true then (kD (.inr k), z) :: ds else (kD (.inr k), d) :: setF f z ds)
    rw [eqK_f]
    by_cases hk : k = f
    · rw [if_pos hk, if_pos (decide_eq_true hk)]
      exact .cons hv r
    · rw [if_neg hk, if_neg (by simpa using hk)]
      exact .cons h (setF_ok hv r)
theorem insR_at {F H : Hp} {a : Addr} {kds : List (D × D)} (hC : PySem.W.nsIn K mainGlobals x = some (some (.ref C))) (h : OwnS K F H a (insD x kds)) : ∃ dx fs, H a = some (.ins C dx fs) ∧ RpK K F (kfs fs) kds := by
  obtain ⟨y, C', dx, fs, kds', e, h1, h2, h3⟩ := h
  cases e
  rw [hC] at h1
  cases h1
  exact ⟨dx, fs, h2, h3⟩
theorem insR_mk {F H : Hp} {a dx : Addr} {fs : List (Str × V)} {kds : List (D × D)} (hC : PySem.W.nsIn K mainGlobals x = some (some (.ref C))) (h2 : H a = some (.ins C dx fs)) (h3 : RpK K F (kfs fs) kds) : OwnS K F H a (insD x kds) :=
  ⟨x, C, dx, fs, kds, rfl, hC, h2, h3⟩
/-- o.f -/
def mFld (j : Nat) (x f : Str) : ME := fun ρ => match mu ρ j with
  | none => .stuck
  | some d => match (asI x d).bind (getF f) with
    | none => .stuck
    | some z => .ok (z, ρ)
theorem sh_fld {j : Nat} (hC : PySem.W.nsIn K mainGlobals x = some (some (.ref C))) (c : Cls K C) (n : NoAttr K C f) : ShE K mg E (tFld K (tVar j) f) (mFld j x f) := by
  intro Φ F σ H ρ Q W r x0 g
  unfold mFld at g
  cases e : mu ρ j with
  | none => rw [e] at g; exact g.elim
  | some d =>
    rw [e] at g
    dsimp only at g
    cases ea : asI x d with
    | none => rw [ea] at g; exact g.elim
    | some kds =>
      rw [ea] at g
      dsimp only [Option.bind] at g
      cases eg : getF f kds with
      | none => rw [eg] at g; exact g.elim
      | some z =>
        rw [eg] at g
        obtain ⟨a, ea', nF, ow⟩ := r.mu e
        rw [asI_ok ea] at ow
        obtain ⟨dx, fs, h1, h2⟩ := insR_at hC ow
        rcases getF_ok (f := f) h2 with ⟨_, w⟩ | ⟨v, d', w1, w2, w3⟩
        · rw [w] at eg; cases eg
        · rw [eg] at w2
          cases w2
          exact ⟨_, ea', a, C, dx, fs, v, rfl, h1, c, n, w1, g v F H r (Same.refl _) w3⟩
/-- o.f = e -/
def mSetF (j : Nat) (x f : Str) (m : ME) : MS := fun ρ => (m ρ).out fun p => match mu p.2 j with
  | none => .stuck
  | some d => match asI x d with
    | none => .stuck
    | some kds => if kds.length < 900 then .nx (putMu p.2 j (insD x (setF f p.1 kds))) else .stuck
theorem kfs_len {fs : List (Str × V)} : (kfs fs).length = fs.length := List.length_map ..
theorem shs_setF {j : Nat} (hC : PySem.W.nsIn K mainGlobals x = some (some (.ref C))) (c : Cls K C) (n : NoAttr K C f) (h : ShE K mg E te m) : ShS K mg E (sFld K (tVar j) te f) (mSetF j x f m) := by
  intro Φ F σ H ρ De W r x0 gg
  refine h Φ F σ H ρ _ W r x0 ((GoodS.out (r := m ρ) gg).mono (fun p gp v F1 H1 r1 s1 rv => ?_) fun _ _ _ w => w)
  cases e : mu p.2 j with
  | none => simp only [e] at gp; exact gp.elim
  | some d =>
    simp only [e] at gp
    cases ea : asI x d with
    | none => rw [ea] at gp; exact gp.elim
    | some kds =>
      rw [ea] at gp
      dsimp only at gp
      split at gp
      · rename_i hl
        obtain ⟨a, ea', nF, ow⟩ := r1.mu e
        rw [asI_ok ea] at ow
        obtain ⟨dx, fs, h1, h2⟩ := insR_at hC ow
        have hlen : fs.length = kds.length := by rw [← h2.length, kfs_len]
        refine ⟨_, ea', a, C, dx, fs, rfl, h1, c, n, by omega, ?_⟩
        exact gp σ F1 _ (r1.putMu e ea' (insR_mk hC upd_same (setF_ok rv h2))) s1
      · exact gp.elim
/-- o.m(e, ..) -/
def mMeth (x mn : Str) (f : MFi) (j : Nat) (ms : List ME) : ME := fun ρ => match mu ρ j with
  | none => .stuck
  | some d => match asI x d with
    | none => .stuck
    | some kds => match getF mn kds with
      | none => mCallI f j ms ρ
      | some _ => .stuck
theorem sh_meth {f : MFi} {n j : Nat} {mn : Str} (hC : PySem.W.nsIn K mainGlobals x = some (some (.ref C))) (h : ShA K mg E tr ms) (hl : ms.length = n) : ShE K mg E (tMeth C mn (spI K n f) [] E0 (tVar j) tr) (mMeth x mn f j ms) := by
  intro Φ F σ H ρ Q W r x0 g
  unfold mMeth at g
  cases e : mu ρ j with
  | none => rw [e] at g; exact g.elim
  | some d00 =>
    rw [e] at g
    dsimp only at g
    cases ea0 : asI x d00 with
    | none => rw [ea0] at g; exact g.elim
    | some kds =>
      rw [ea0] at g
      dsimp only at g
      cases eg : getF mn kds with
      | some _ => rw [eg] at g; exact g.elim
      | none =>
        rw [eg] at g
        dsimp only at g
        unfold mCallI at g
        rw [e] at g
        dsimp only at g
        obtain ⟨a, ea, _, ow0⟩ := r.mu e
        rw [asI_ok ea0] at ow0
        obtain ⟨dx, fs, h1, h2⟩ := insR_at hC ow0
        have hlk : fs.lookup mn = none := by
          rcases getF_ok (f := mn) h2 with ⟨w, _⟩ | ⟨v, d', _, w2, _⟩
          · exact w
          · rw [w2] at eg; cases eg
        refine ⟨_, ea, a, dx, fs, rfl, h1, hlk, h Φ F σ H ρ _ W r x0 ((Good.bind (r := mA ms ρ) g).mono (fun p gp vs F1 H1 r1 s1 rv el => ?_) fun _ _ _ w => w)⟩
        rw [List.append_nil]
        cases e1 : mu p.2 j with
        | none => simp only [e1] at gp; exact gp.elim
        | some d0 =>
          simp only [e1] at gp
          obtain ⟨a', ea', nF, ow⟩ := r1.mu e1
          rw [ea] at ea'
          cases ea'
          refine ⟨by rw [List.length_cons, el, hl], F1, a, d0, vs, p.1, rfl, r1.sub, nF, ow, rv, (Good.nx (W' := fun _ _ _ => False) (Good.bind (r := (f d0 p.1).nx) gp)).mono (fun q gq v F' H' sF sH nw kp ow' rd => ?_) fun _ _ _ w => w.elim⟩
          exact gq v F' H' (r1.growMu sF sH nw kp e1 ea ow') (s1.trans sF) rd
theorem sh_meth0 {f : MFi} {j : Nat} {mn : Str} (hC : PySem.W.nsIn K mainGlobals x = some (some (.ref C))) : ShE K mg E (tMeth C mn (spI K 0 f) [] E0 (tVar j) tNil) (mMeth x mn f j []) := sh_meth hC sha_nil rfl
/-- x = C(..) -/
def mNew (i : Nat) (x : Str) (f : MFi) (ms : List ME) : MS := fun ρ => (mA ms ρ).out fun p => (f (insD x []) p.1).nx.out fun q => match q.1 with
    | .none => if notIo p.2 i = true then .nx (p.2.set i (.own q.2)) else .stuck
    | _ => .stuck
theorem shs_new {i n : Nat} {f : MFi} (hC : PySem.W.nsIn K mainGlobals x = some (some (.ref C))) (h : ShA K mg E tr ms) (hl : ms.length = n) : ShS K mg E (tAsg (tMake C (spI K n f) [] E0 tr) (gName i)) (mNew i x f ms) := by
  intro Φ F σ H ρ De W r x0 gg
  refine h Φ F σ H ρ _ W r x0 ((GoodS.out (r := mA ms ρ) gg).mono (fun p gp vs F1 H1 r1 s1 rv el => ?_) fun _ _ _ w => w)
  intro a dx na ndx ne
  obtain ⟨r2, s2⟩ := r1.alloc (o := .own a) ndx
  have na2 : (upd H1 dx (.own a)) a = none := by rw [upd_ne (fun e => ne e.symm)]; exact na
  obtain ⟨r3, nF, n0, ap⟩ := r2.allocO (o := .ins C dx []) na2
  rw [List.append_nil]
  refine ⟨by rw [List.length_cons, el, hl], upd F1 dx (.own a), a, insD x [], vs, p.1, rfl, r3.sub, nF, insR_mk hC upd_same .nil, rv.mono s2, (Good.nx (W' := fun _ _ _ => False) (GoodS.out (r := (f (insD x []) p.1).nx) gp)).mono (fun q gq v F' H' sF sH nw kp ow' rd => ?_) fun _ _ _ w => w.elim⟩
  obtain ⟨z, d'⟩ := q
  dsimp only at gq ow' rd
  cases z <;> first | exact gq.elim | skip
  cases rd
  refine ⟨rfl, ?_⟩
  dsimp only at gq
  split at gq
  · rename_i hn
    have hx : (upd (upd H1 dx (.own a)) a (.ins C dx [])) a ≠ none := by rw [upd_same]; exact fun e => by cases e
    have r4 : R K Φ F' σ H' p.2 := r2.grow sF sH (fun b n z => nw b n (by
      by_cases e : b = a
      · subst e; exact hx
      · rw [upd_ne e]; exact z)) (fun b o e => kp b o (by rw [upd_ne (by rintro rfl; rw [na2] at e; cases e)]; exact e) (by rintro rfl; rw [na2] at e; cases e))
    have ap' : ∀ (j : Nat) d, p.2[j]? = some (.own d) → σ[j]? ≠ some (some (.ref a)) := ap
    exact gq _ F' H' (r4.setO hn (nw a nF hx) n0 ap' ow') ((s1.trans s2).trans sF)
  · exact gq.elim
end
/-! what they come to -/
section
variable {ρ : Env} {x f : Str} {j : Nat}
theorem w_fld {Q : D → Env → Prop} (q : MU (mu ρ j) fun d => VAL ((asI x d).bind (getF f)) fun z => Q z ρ) : Sat (mFld j x f ρ) Q := by
  obtain ⟨d, e, z, e2, q⟩ := q
  exact ⟨z, ρ, by unfold mFld; rw [e]; dsimp only; rw [e2], q⟩
/-- a new value of a field -/
def PUTD (x f : Str) (z d : D) (N : D → Prop) : Prop := ∃ kds, asI x d = some kds ∧ kds.length < 900 ∧ N (insD x (setF f z kds))
theorem w_setF {m : ME} {N : Env → Prop} {Rt : D → Env → Prop} {B C : Env → Prop} {Xp : Str → D → Env → Prop} (q : Sat (m ρ) fun z ρ1 => MU (mu ρ1 j) fun d => PUTD x f z d fun d' => SETS (putMu ρ1 j d') N) : SatS (mSetF j x f m ρ) N Rt B C Xp := by
  obtain ⟨z, ρ1, e1, d, e2, kds, e3, hl, q⟩ := q
  unfold mSetF
  rw [e1]
  dsimp only [Res.out]
  rw [e2]
  dsimp only
  rw [e3]
  dsimp only
  rw [if_pos hl]
  exact q
/-- the object has no field of the method's name -/
def NOF (x mn : Str) (d : D) (N : Prop) : Prop := ∃ kds, asI x d = some kds ∧ getF mn kds = none ∧ N
theorem w_meth {mn : Str} {fm : MFi} {ms : List ME} {Q : D → Env → Prop} (q : MU (mu ρ j) fun d => NOF x mn d (Sat (mCallI fm j ms ρ) Q)) : Sat (mMeth x mn fm j ms ρ) Q := by
  obtain ⟨d, e, kds, e2, e3, z, ρ', e4, q⟩ := q
  refine ⟨z, ρ', ?_, q⟩
  unfold mMeth
  rw [e]
  dsimp only
  rw [e2]
  dsimp only
  rw [e3]
  exact e4
def NEWD (i : Nat) (ρ : Env) (z d : D) (N : Env → Prop) : Prop := z = .none ∧ notIo ρ i = true ∧ SETS (ρ.set i (.own d)) N
theorem w_new {i : Nat} {fm : MFi} {ms : List ME} {N : Env → Prop} {Rt : D → Env → Prop} {B C : Env → Prop} {Xp : Str → D → Env → Prop} (q : SatA (mA ms ρ) fun ds ρ1 => SatI (fm (insD x []) ds) fun z d => NEWD i ρ1 z d N) : SatS (mNew i x fm ms ρ) N Rt B C Xp := by
  obtain ⟨ds, ρ1, e1, z, d, e2, rfl, h, q⟩ := q
  unfold mNew
  rw [e1]
  dsimp only [Res.out]
  rw [e2]
  dsimp only [Res.nx, Res.out]
  rw [if_pos h]
  exact q
end
end Mi

set_option Elab.async false
set_option linter.all false
set_option maxRecDepth 100000
/-! methods of texts, text and number, parts of a text -/
namespace Mi
open PySem PySem.Spec PyProof.Rows L2
section
variable {K : PySem.W.Frag} {mg : Str → Option Value} {E : L2.St → XK} {to te : TE} {mo m : ME}
/-- a method of a text, with one argument -/
def mM1 (f : D → D → Option D) (mo m : ME) : ME := fun ρ => (mo ρ).bind fun p => match p.1 with
  | .str _ => (m p.2).bind fun q => ret (f p.1 q.1) q.2
  | _ => .stuck
def M1S (K : PySem.W.Frag) (r : V → List V → Hp → VK → Prop) (f : D → D → Option D) : Prop := ∀ (F H : Hp) (x y : V) (dx dy d : D) (Q : VK), Same F H → Rp K F x dx → Rp K F y dy → f dx dy = some d → (∀ v, Rp K F v d → Q v H) → r x [y] H Q
theorem sh_m1 {r : V → List V → Hp → VK → Prop} {f : D → D → Option D} (ho : M1S K r f) (ha : ShE K mg E to mo) (hb : ShE K mg E te m) : ShE K mg E (tM1 r to te) (mM1 f mo m) := by
  intro Φ F σ H ρ Q W rr x g
  have g1 := Good.bind (r := mo ρ) g
  refine ha Φ F σ H ρ _ W rr x (g1.mono (fun p gp v F1 H1 r1 s1 rv => ?_) fun _ _ _ w => w)
  obtain ⟨d, ρ'⟩ := p
  cases d <;> first | exact False.elim gp | skip
  have rv' := rv
  cases rv
  refine ⟨⟨_, rfl⟩, hb Φ F1 σ H1 ρ' _ W r1 x ((Good.bind (r := m ρ') gp).mono (fun q gq v2 F2 H2 r2 s2 rv2 => ?_) fun _ _ _ w => up.weak s1 w)⟩
  unfold ret at gq
  cases e : f (.str _) q.1 with
  | none => rw [e] at gq; exact gq.elim
  | some d =>
    rw [e] at gq
    exact ho F2 H2 _ v2 _ _ d Q r2.sub (rv'.mono s2) rv2 e fun w rw' => gq w F2 H2 r2 (s1.trans s2) rw'
def M1F (K : PySem.W.Frag) (r : V → List V → Hp → VK → Prop) (f : D → D → Option D) : Prop := ∀ (F H : Hp) (x y : V) (dx dy d : D) (Q : VK), Same F H → Rp K F x dx → Rp K F y dy → f dx dy = some d →
  (∀ a ys es, H a = none → d = .list es → RpA K F ys es → Q (.ref a) (upd H a (.lst ys))) → r x [y] H Q
theorem shf_m1 {r : V → List V → Hp → VK → Prop} {f : D → D → Option D} (ho : M1F K r f) (ha : ShE K mg E to mo) (hb : ShE K mg E te m) : ShF K mg E (tM1 r to te) (mM1 f mo m) := by
  intro Φ F σ H ρ Q W rr x g
  have g1 := Good.bind (r := mo ρ) g
  refine ha Φ F σ H ρ _ W rr x (g1.mono (fun p gp v F1 H1 r1 s1 rv => ?_) fun _ _ _ w => w)
  obtain ⟨d, ρ'⟩ := p
  cases d <;> first | exact False.elim gp | skip
  have rv' := rv
  cases rv
  refine ⟨⟨_, rfl⟩, hb Φ F1 σ H1 ρ' _ W r1 x ((Good.bind (r := m ρ') gp).mono (fun q gq v2 F2 H2 r2 s2 rv2 => ?_) fun _ _ _ w => up.weak s1 w)⟩
  unfold ret at gq
  cases e : f (.str _) q.1 with
  | none => rw [e] at gq; exact gq.elim
  | some d =>
    rw [e] at gq
    refine ho F2 H2 _ v2 _ _ d Q r2.sub (rv'.mono s2) rv2 e fun a ys es na ed rys => ?_
    subst ed
    obtain ⟨r3, nF, n0, ap⟩ := r2.allocO (o := .lst ys) na
    exact gq a _ _ r3 (s1.trans s2) nF n0 ap ⟨ys, upd_same, rys⟩
def fStart : D → D → Option D
  | .str a, .str b => some (.bool (Txt.startswith a b))
  | _, _ => none
theorem m_start : M1S K (fun x xs H Q => ∃ a b, x = .str a ∧ xs = [.str b] ∧ Q (.bl (Txt.startswith a b)) H) fStart := fun F H x y dx dy d Q s rx ry e q => by
  cases rx <;> try (cases e; done)
  cases ry <;> try (cases e; done)
  cases e
  exact ⟨_, _, rfl, rfl, q _ (.bl _)⟩
def fEnds : D → D → Option D
  | .str a, .str b => some (.bool (Txt.endswith a b))
  | _, _ => none
theorem m_ends : M1S K (fun x xs H Q => ∃ a b, x = .str a ∧ xs = [.str b] ∧ Q (.bl (Txt.endswith a b)) H) fEnds := fun F H x y dx dy d Q s rx ry e q => by
  cases rx <;> try (cases e; done)
  cases ry <;> try (cases e; done)
  cases e
  exact ⟨_, _, rfl, rfl, q _ (.bl _)⟩
theorem strsD_rp {F : Hp} : ∀ {vs : List V} {ds : List D} {xs : List Str}, RpA K F vs ds → ds = xs.map .str → vs = xs.map V.str
  | _, _, [], .nil, _ => rfl
  | _, _, [], .cons _ _, e => by cases e
  | _, _, _ :: _, .nil, e => by cases e
  | _, _, x :: xs, .cons h r, e => by
    cases e
    cases h
    rw [strsD_rp r rfl]
    rfl
def fJoin : D → D → Option D
  | .str a, .list ds => (strsD ds).bind fun ys => if (ys.map (·.length)).sum + ys.length * a.length ≤ 16777216 then some (.str (Txt.join a ys)) else none
  | .str a, .tuple ds => (strsD ds).bind fun ys => if (ys.map (·.length)).sum + ys.length * a.length ≤ 16777216 then some (.str (Txt.join a ys)) else none
  | _, _ => none
theorem m_join : M1S K (fun x xs H Q => ∃ a p, ∃ ys : List Str, x = .str a ∧ xs = [.ref p] ∧ (SqL K H p (ys.map V.str) ∨ SqT K H p (ys.map V.str)) ∧ (ys.map (·.length)).sum + ys.length * a.length ≤ 16777216 ∧ Q (.str (Txt.join a ys)) H) fJoin := fun F H x y dx dy d Q s rx ry e q => by
  unfold fJoin at e
  split at e
  · rename_i a ds
    cases rx
    cases z : strsD ds with
    | none => rw [z] at e; cases e
    | some ys =>
      rw [z] at e
      dsimp only [Option.bind] at e
      split at e
      · rename_i hl
        cases e
        cases ry with
        | lst h1 h2 => exact ⟨_, _, ys, rfl, rfl, .inl (by rw [← strsD_rp h2 (strsD_eq z)]; exact SqL.of (s _ _ h1)), hl, q _ (.str _)⟩
      · cases e
  · rename_i a ds
    cases rx
    cases z : strsD ds with
    | none => rw [z] at e; cases e
    | some ys =>
      rw [z] at e
      dsimp only [Option.bind] at e
      split at e
      · rename_i hl
        cases e
        cases ry with
        | tup h1 h2 => exact ⟨_, _, ys, rfl, rfl, .inr (by rw [← strsD_rp h2 (strsD_eq z)]; exact s.seqT h1), hl, q _ (.str _)⟩
      · cases e
  · cases e
def fSplit : D → D → Option D
  | .str a, .str b => if (b.length == 0) = false ∧ a.length + 2 ≤ 16777216 then some (.list ((Txt.split a b).map .str)) else none
  | _, _ => none
theorem m_split : M1F K (fun x xs H Q => ∃ a b, x = .str a ∧ xs = [.str b] ∧ (b.length == 0) = false ∧ a.length + 2 ≤ sizeLine ∧ rNewStrs (Txt.split a b) H Q) fSplit := fun F H x y dx dy d Q s rx ry e q => by
  unfold fSplit at e
  split at e
  · rename_i a b
    split at e
    · rename_i hl
      cases e
      cases rx
      cases ry
      exact ⟨_, _, rfl, rfl, hl.1, by rw [sizeLine_eq]; exact hl.2, fun p np => q p _ _ np rfl (rpa_strs _)⟩
    · cases e
  · cases e
/-! str(text), int(text) -/
def cbStrS : List D → Option D
  | [.str a] => some (.str a)
  | [.int i] => if i.natAbs.log2 < 1920 then some (.str (toString i)) else none
  | _ => none
theorem cs_strS : CbSh K (fun xs H Q => (∃ a, xs = [.str a] ∧ Q (.str a) H) ∨ ∃ i, xs = [.int i] ∧ i.natAbs.log2 < 1920 ∧ Q (.str (toString i)) H) cbStrS := CbS.sh fun F H xs ds d Q s rx e q => by
  unfold cbStrS at e
  split at e
  · obtain ⟨v, rfl, hv⟩ := one_rp rx
    cases e; cases hv
    exact .inl ⟨_, rfl, q _ (.str _)⟩
  · obtain ⟨v, rfl, hv⟩ := one_rp rx
    split at e
    · cases e; cases hv
      exact .inr ⟨_, rfl, by assumption, q _ (.str _)⟩
    · cases e
  · cases e
def cbIntS : List D → Option D
  | [.str a] => if a.length ≤ 640 then (PySem.intText? a).map .int else none
  | _ => none
theorem cs_intS : CbSh K (fun xs H Q => ∃ a n, xs = [.str a] ∧ PySem.intText? a = some n ∧ a.length ≤ 640 ∧ Q (.int n) H) cbIntS := CbS.sh fun F H xs ds d Q s rx e q => by
  unfold cbIntS at e
  split at e
  · obtain ⟨v, rfl, hv⟩ := one_rp rx
    rename_i a
    split at e
    · rename_i hl
      cases z : PySem.intText? a with
      | none => rw [z] at e; cases e
      | some n =>
        rw [z] at e
        cases e; cases hv
        exact ⟨_, _, rfl, z, hl, q _ (.int _)⟩
    · cases e
  · cases e
/-! parts of a text -/
def fSlS : D → Option Int → Option Int → Option D
  | .str z, lo, hi => if z.length ≤ 16777216 then some (.str (cutS z lo hi)) else none
  | _, _, _ => none
theorem sh_slS {tl th : TO} {ml mh : MO} (h : ShE K mg E te m) (hl : ShO K mg E tl ml) (hh : ShO K mg E th mh) : ShE K mg E (tSl rSlS te tl th) (mSl fSlS m ml mh) := by
  intro Φ F σ H ρ Q W r x g
  refine h Φ F σ H ρ _ W r x ((Good.bind (r := m ρ) g).mono (fun p gp v F1 H1 r1 s1 rv => ?_) fun _ _ _ w => w)
  refine hl Φ F1 σ H1 p.2 _ W r1 x ((Good.bind (r := ml p.2) gp).mono (fun l gl F2 H2 r2 s2 => ?_) fun _ _ _ w => up.weak s1 w)
  refine hh Φ F2 σ H2 l.2 _ W r2 x ((Good.bind (r := mh l.2) gl).mono (fun q gq F3 H3 r3 s3 => ?_) fun _ _ _ w => up.weak (s1.trans s2) w)
  obtain ⟨d, ρ'⟩ := p
  cases rv <;> try (exact False.elim gq)
  rename_i z
  have gq : Good (ret (if z.length ≤ 16777216 then some (.str (cutS z l.1 q.1)) else none) q.2) (fun p => ∀ v F' H', R K Φ F' σ H' p.2 → Same F F' → Rp K F' v p.1 → Q v H') (up F W) := gq
  by_cases hz : z.length ≤ 16777216
  · rw [if_pos hz] at gq
    exact ⟨z, rfl, by rw [sizeLine_eq]; exact hz, gq _ F3 H3 r3 ((s1.trans s2).trans s3) (.str _)⟩
  · rw [if_neg hz] at gq
    exact gq.elim
def fIxS : D → D → Option D
  | .str z, .int i => if z.length ≤ 16777216 then (atI z.cps.toList i).map fun c => .str ⟨#[c]⟩ else none
  | _, _ => none
theorem s_ixS : OpSh K rIxS fIxS := OpS.sh fun F H x y dx dy d Q s rx ry e q => by
  unfold fIxS at e
  split at e
  · rename_i z i
    split at e
    · rename_i hl
      cases w : atI z.cps.toList i with
      | none => rw [w] at e; cases e
      | some c =>
        rw [w] at e
        cases e
        cases rx
        cases ry
        exact ⟨z, i, c, rfl, rfl, by rw [sizeLine_eq]; exact hl, w, q _ (.str _)⟩
    · cases e
  · cases e
/-! a text told several times -/
def mulS (x : Str) (n : Int) : Str := if n < 1 then Str.empty else if (n == 1 || x.length == 0) = true then x else ⟨(List.replicate n.toNat x.cps).foldl (· ++ ·) #[]⟩
def rMulS : V → V → Hp → VK → Prop := fun x y H Q => ∃ a n, x = .str a ∧ y = .int n ∧ -9223372036854775808 ≤ n ∧ n < 9223372036854775808 ∧ (a.length : Int) * n ≤ 16777216 ∧ Q (.str (mulS a n)) H
def fMulS : D → D → Option D
  | .str a, .int n => if -9223372036854775808 ≤ n ∧ n < 9223372036854775808 ∧ (a.length : Int) * n ≤ 16777216 then some (.str (mulS a n)) else none
  | _, _ => none
theorem s_mulS : OpSh K rMulS fMulS := OpS.sh fun F H x y dx dy d Q s rx ry e q => by
  unfold fMulS at e
  split at e
  · split at e
    · rename_i hl
      cases e
      cases rx
      cases ry
      exact ⟨_, _, rfl, rfl, hl.1, hl.2.1, hl.2.2, q _ (.str _)⟩
    · cases e
  · cases e
end
section
variable {X : Cx}
theorem call_strS : CallR X (.type "str") (fun xs H Q => (∃ a, xs = [.str a] ∧ Q (.str a) H) ∨ ∃ i, xs = [.int i] ∧ i.natAbs.log2 < 1920 ∧ Q (.str (toString i)) H) := by
  intro pins s σ H vs us Q I r h
  rcases h with h | h
  · exact SkE.call_str_str pins s σ H vs us Q I r h
  · exact call_str_int pins s σ H vs us Q I r h
theorem rep_size (xs : Array Nat) : ∀ (k : Nat) (acc : Array Nat), (List.foldl (· ++ ·) acc (List.replicate k xs)).size = acc.size + k * xs.size
  | 0, acc => by simp
  | k + 1, acc => by
    rw [List.replicate_succ, List.foldl_cons, rep_size xs k, Array.size_append, Nat.succ_mul]
    omega
theorem op_mulS : OpR X (binaryOp .Mult) rMulS := by
  intro pins s σ H x y v u Q I rx ry h
  obtain ⟨a, n, rfl, rfl, h1, h2, h3, q⟩ := h
  obtain ⟨t, rfl⟩ := rx
  obtain ⟨t', rfl⟩ := ry
  refine PySem.P.mul_str (by
    have a1 : ¬ n < -(2 ^ 63 : Int) := by omega
    have a2 : ¬ n ≥ 2 ^ 63 := by omega
    rw [decide_eq_false a1, decide_eq_false a2]; rfl) (fun g1 _ z => ?_) (fun g1 _ => ?_) ?_
  · have : (a.length : Int) ≤ (2 ^ 63 - 1) / n := Int.le_ediv_of_mul_le (by omega) (by omega)
    omega
  · have e : ((a.length * n.toNat : Nat) : Int) = a.length * n := by rw [Int.natCast_mul, Int.toNat_of_nonneg (by omega)]
    show PySem.Builtin.Str.tooLong _ = false
    unfold PySem.Builtin.Str.tooLong
    rw [decide_eq_false_iff_not, sizeLine_eq]
    omega
  · unfold mulS at q
    by_cases c : n < 1
    · rw [if_pos c] at q ⊢
      exact ⟨Nat.zero_le _, .str _, H, I.tok _, ⟨_, rfl⟩, q⟩
    · rw [if_neg c] at q ⊢
      by_cases c2 : (n == 1 || a.length == 0) = true
      · rw [if_pos c2] at q ⊢
        exact ⟨.str _, H, I, ⟨_, rfl⟩, q⟩
      · rw [if_neg c2] at q ⊢
        refine ⟨?_, .str _, H, I.tok _, ⟨_, rfl⟩, q⟩
        show (List.foldl (· ++ ·) #[] (List.replicate n.toNat a.cps)).size ≤ _
        rw [rep_size, sizeLine_eq]
        have e : ((a.length * n.toNat : Nat) : Int) = a.length * n := by rw [Int.natCast_mul, Int.toNat_of_nonneg (by omega)]
        have e2 : n.toNat * a.cps.size = a.length * n.toNat := Nat.mul_comm ..
        show 0 + n.toNat * a.cps.size ≤ _
        omega
end
end Mi

set_option Elab.async false
set_option linter.all false
set_option maxRecDepth 100000
/-! a def that changes two objects of its caller's: its first argument and its second one -/
namespace Mi
open PySem PySem.Spec PyProof.Rows L2
abbrev MFl := D → D → Res (D × D × D)
section
variable {K : PySem.W.Frag} {mg : Str → Option Value} {E : L2.St → XK} {s1 : TS}
def spIL (K : PySem.W.Frag) (f : MFl) : Sp := fun vs H Q _ => vs.length = 2 ∧ ∃ F a d0 c dm, vs = [.ref a, .ref c] ∧ Same F H ∧ (F a = none ∧ OwnS K F H a d0) ∧ (F c = none ∧ OwnS K F H c dm) ∧ a ≠ c ∧
  Good (f d0 dm) (fun p => ∀ v F' H', Same F F' → Same F' H' → (∀ b, F b = none → H b ≠ none → F' b = none) → (∀ b o, H b = some o → b ≠ a → b ≠ c → H' b = some o) → OwnS K F' H' a p.2.1 → OwnS K F' H' c p.2.2 → Rp K F' v p.1 → Q v H') (fun _ _ _ => False)
theorem mu_putMu {ρ : Env} {i j : Nat} {d : D} (h : i ≠ j) : mu (putMu ρ i d) j = mu ρ j := by
  unfold putMu
  split
  · unfold mu; rw [List.getElem?_set_ne h]
  · unfold mu; rw [List.getElem?_set_ne h]
  · rfl
theorem R.growMu2 {Φ : Fm} {F H : Hp} {σ : L2.St} {ρ : Env} (h : R K Φ F σ H ρ) {F' H' : Hp} {i j : Nat} {a c : Addr} {d e d' e' : D} (hij : i ≠ j) (ac : a ≠ c) (sF : Same F F') (sub : Same F' H') (new : ∀ b, F b = none → H b ≠ none → F' b = none) (kept : ∀ b o, H b = some o → b ≠ a → b ≠ c → H' b = some o)
    (em : Mi.mu ρ i = some d) (ea : σ[i]? = some (some (.ref a))) (ej : Mi.mu ρ j = some e) (ec : σ[j]? = some (some (.ref c))) (ra : OwnS K F' H' a d') (rc : OwnS K F' H' c e') : R K Φ F' σ H' (Mi.putMu (Mi.putMu ρ i d') j e') := by
  obtain ⟨c0, ec0, nFc, owc⟩ := h.mu ej
  rw [ec] at ec0
  cases ec0
  obtain ⟨u, eu⟩ := owc.ex
  obtain ⟨o, eo⟩ := rc.ex
  have nF' : F' c = none := new c nFc (by rw [eu]; exact fun z => by cases z)
  have h2 : R K Φ F' σ (upd H' c u) (Mi.putMu ρ i d') := by
    refine h.growMu sF (fun b w q => ?_) new (fun b w q z => ?_) em ea (ra.mono (H := H') (H' := upd H' c u) (Same.refl _) fun o e => by rw [upd_ne ac]; exact e)
    · rw [upd_ne (ne_of_none q nF')]; exact sub _ _ q
    · by_cases y : b = c
      · subst y; rw [upd_same]; rw [eu] at q; exact q
      · rw [upd_ne y]; exact kept b w q z y
  have e2 : upd (upd H' c u) c o = H' := by
    rw [upd_upd]
    funext b
    by_cases y : b = c
    · subst y; rw [upd_same, eo]
    · rw [upd_ne y]
  have h3 := h2.putMu (o := o) (d' := e') (by rw [mu_putMu hij]; exact ej) ec (by rw [e2]; exact rc)
  rw [e2] at h3
  exact h3
def mCallIL (f : MFl) (i j : Nat) : ME := fun ρ => match mu ρ i with
  | none => .stuck
  | some d0 => match mu ρ j with
    | none => .stuck
    | some dm => if i = j then .stuck else (f d0 dm).nx.bind fun q => .ok (q.1, putMu (putMu ρ i q.2.1) j q.2.2)
theorem mu_ne {Φ : Fm} {F H : Hp} {σ : L2.St} {ρ : Env} (r : R K Φ F σ H ρ) {i j : Nat} {a c : Addr} {d e : D} (h : i ≠ j) (em : Mi.mu ρ i = some d) (ej : Mi.mu ρ j = some e) (ea : σ[i]? = some (some (.ref a))) (ec : σ[j]? = some (some (.ref c))) : a ≠ c := by
  rintro rfl
  unfold mu at em ej
  split at em
  · rename_i d1 q1
    split at ej
    · rename_i d2 q2
      exact h (r.dis i j _ _ _ q1 q2 ea ec)
    · rename_i d2 q2
      obtain ⟨b, hb⟩ := r.io2 j d2 q2
      obtain ⟨w1, w2, d', w3, w4, w5⟩ := r.io1 j b hb
      rw [ec] at w4
      cases w4
      obtain ⟨a', v1, v2, v3, v4⟩ := r.sl i _ q1
      rw [ea] at v1
      cases v1
      exact w1 v3
    · cases ej
  · rename_i d1 q1
    obtain ⟨b, hb⟩ := r.io2 i d1 q1
    obtain ⟨w1, w2, d', w3, w4, w5⟩ := r.io1 i b hb
    rw [ea] at w4
    cases w4
    split at ej
    · rename_i d2 q2
      obtain ⟨a', v1, v2, v3, v4⟩ := r.sl j _ q2
      rw [ec] at v1
      cases v1
      exact w1 v3
    · rename_i d2 q2
      obtain ⟨b, hb2⟩ := r.io2 j d2 q2
      obtain ⟨_, _, _, _, x4, _⟩ := r.io1 j b hb2
      rw [ec] at x4
      cases x4
      exact h (Φ.inj _ _ _ hb hb2)
    · cases ej
  · cases em
theorem sh_callIL {f : MFl} {i j : Nat} : ShE K mg E (tCall (spIL K f) [] E0 (tCons (tVar i) (tCons (tVar j) tNil))) (mCallIL f i j) := by
  intro Φ F σ H ρ Q W r x g
  unfold mCallIL at g
  cases e1 : mu ρ i with
  | none => rw [e1] at g; exact g.elim
  | some d0 =>
    rw [e1] at g
    dsimp only at g
    cases e2 : mu ρ j with
    | none => rw [e2] at g; exact g.elim
    | some dm =>
      rw [e2] at g
      dsimp only at g
      split at g
      · exact g.elim
      rename_i hij
      obtain ⟨a, ea, nF, ow⟩ := r.mu e1
      obtain ⟨c, ec, nc, oc⟩ := r.mu e2
      have ac := mu_ne r hij e1 e2 ea ec
      refine ⟨_, ea, _, ec, ?_⟩
      show spIL K f ([V.ref a, V.ref c] ++ []) H Q E0
      refine ⟨rfl, F, a, d0, c, dm, rfl, r.sub, ⟨nF, ow⟩, ⟨nc, oc⟩, ac, (Good.nx (W' := fun _ _ _ => False) (Good.bind (r := (f d0 dm).nx) g)).mono (fun q gq u F' H' sF sH nw kp oa oc' rd => ?_) fun _ _ _ w => w.elim⟩
      exact gq u F' H' (r.growMu2 hij ac sF sH nw kp e1 ea e2 ec oa oc') sF rd
def envIL (N : Nat) (d0 dm : D) : Env := .io d0 :: .io dm :: List.replicate (N - 2) .no
def ioOf1 (ρ : Env) : D := match ρ[1]? with
  | some (Sl.io d) => d
  | _ => .none
def runIL (N : Nat) (m : MS) : MFl := fun d0 dm => match m (envIL N d0 dm) with
  | .nx ρ => .ok (.none, ioOf ρ, ioOf1 ρ)
  | .rt d ρ => .ok (d, ioOf ρ, ioOf1 ρ)
  | _ => .stuck
def io2' (a c : Addr) : Nat → Option Addr
  | 0 => some a
  | 1 => some c
  | _ => none
theorem io2'_at {a c b : Addr} {k : Nat} (h : io2' a c k = some b) : (k = 0 ∧ b = a) ∨ (k = 1 ∧ b = c) := by
  match k, h with
  | 0, h => cases h; exact .inl ⟨rfl, rfl⟩
  | 1, h => cases h; exact .inr ⟨rfl, rfl⟩
  | _ + 2, h => cases h
abbrev fm2 (H : Hp) (a c : Addr) (ac : a ≠ c) (F : Hp) : Fm := ⟨H, io2' a c, F, fun k l b e g => by
  rcases io2'_at e with ⟨rfl, rfl⟩ | ⟨rfl, rfl⟩ <;> rcases io2'_at g with ⟨rfl, h⟩ | ⟨rfl, h⟩
  · rfl
  · exact absurd h ac
  · exact absurd h.symm ac
  · rfl⟩
theorem R.startIL {N : List Str} {a c : Addr} {d0 dm : D} {F H : Hp} (sub : Same F H) (nF : F a = none) (ow : OwnS K F H a d0) (nc : F c = none) (oc : OwnS K F H c dm) (ac : a ≠ c) (hl : 2 ≤ N.length) :
    R K (fm2 H a c ac F) F (L2.start N [.ref a, .ref c]) H (envIL N.length d0 dm) := by
  obtain ⟨o, eo⟩ := ow.ex
  obtain ⟨o', eo'⟩ := oc.ex
  have len : (L2.start N [.ref a, .ref c]).length = (envIL N.length d0 dm).length := by
    rw [start_len (vs := [.ref a, .ref c]) hl]
    unfold envIL
    rw [List.length_cons, List.length_cons, List.length_replicate]
    omega
  have low : ∀ (i : Nat) s, (envIL N.length d0 dm)[i]? = some s → (i = 0 ∧ s = .io d0) ∨ (i = 1 ∧ s = .io dm) ∨ s = .no := by
    intro i s e
    match i, e with
    | 0, e => cases e; exact .inl ⟨rfl, rfl⟩
    | 1, e => cases e; exact .inr (.inl ⟨rfl, rfl⟩)
    | i + 2, e =>
      have e : (List.replicate (N.length - 2) Sl.no)[i]? = some s := e
      rw [List.getElem?_replicate] at e
      split at e
      · cases e; exact .inr (.inr rfl)
      · cases e
  refine ⟨len, sub, Same.refl _, fun b n _ => n, fun b o e _ => e, fun b e => e, fun i s e => ?_, fun i j b d e q1 q2 f1 f2 => ?_, fun k b e => ?_, fun i d e => ?_⟩
  · rcases low i s e with ⟨_, rfl⟩ | ⟨_, rfl⟩ | rfl
    · trivial
    · trivial
    · trivial
  · rcases low i _ q1 with ⟨_, z⟩ | ⟨_, z⟩ | z <;> cases z
  · rcases io2'_at e with ⟨rfl, rfl⟩ | ⟨rfl, rfl⟩
    · exact ⟨by show H b ≠ none; rw [eo]; exact fun z => (by cases z), nF, d0, rfl, start_get (by rfl), ow⟩
    · exact ⟨by show H b ≠ none; rw [eo']; exact fun z => (by cases z), nc, dm, rfl, start_get (by rfl), oc⟩
  · rcases low i _ e with ⟨rfl, z⟩ | ⟨rfl, z⟩ | z
    · exact ⟨a, rfl⟩
    · exact ⟨c, rfl⟩
    · cases z
theorem body_IL {N : List Str} {f : MS} {vs : List V} {H : Hp} {Q : VK} {Ex : XK} (hs : ShS K mg (fun _ => Ex) s1 f) (h : spIL K (runIL N.length f) vs H Q Ex) (hn : 2 ≤ N.length) : s1 { nx := fun _ H' => Q .non H', rt := Q } (L2.start N vs) H := by
  obtain ⟨hl, F, a, d0, c, dm, rfl, sub, ⟨nF, ow⟩, ⟨nc, oc⟩, ac, g⟩ := h
  have r := R.startIL (N := N) sub nF ow nc oc ac hn
  have fin : ∀ {σ' : L2.St} {F' H' : Hp} {ρ : Env}, R K (fm2 H a c ac F) F' σ' H' ρ → (∀ b o, H b = some o → b ≠ a → b ≠ c → H' b = some o) ∧ OwnS K F' H' a (ioOf ρ) ∧ OwnS K F' H' c (ioOf1 ρ) := fun {σ' F' H' ρ} r' => by
    obtain ⟨_, _, d, q1, _, q3⟩ := r'.io1 0 a rfl
    obtain ⟨_, _, d', p1, _, p3⟩ := r'.io1 1 c rfl
    refine ⟨fun b o e z w => r'.kept b o e (fun k h => ?_), ?_, ?_⟩
    · rcases io2'_at h with ⟨_, y⟩ | ⟨_, y⟩
      · exact z y
      · exact w y
    · unfold ioOf; rw [q1]; exact q3
    · unfold ioOf1; rw [p1]; exact p3
  refine hs (fm2 H a c ac F) F _ H _ _ (fun _ _ _ _ => False) r xw_false ?_
  unfold runIL at g
  cases e : f (envIL N.length d0 dm) with
  | nx ρ => rw [e] at g; exact fun σ' F' H' r' s' => g .non F' H' s' r'.sub r'.new (fin r').1 (fin r').2.1 (fin r').2.2 .non
  | rt d ρ => rw [e] at g; exact fun σ' v F' H' r' s' rd => g v F' H' s' r'.sub r'.new (fin r').1 (fin r').2.1 (fin r').2.2 rd
  | bk ρ => rw [e] at g; exact g.elim
  | ct ρ => rw [e] at g; exact g.elim
  | exc c d ρ => rw [e] at g; exact g.elim
  | stuck => rw [e] at g; exact g.elim
variable {X : Cx} {body : List Stmt} {N : List Str} {f : MS} {vs : List V} {H : Hp} {Q : VK} {Ex : XK}
theorem fin_IL (pe : PSs X body s1) (hs : ShS K mg (fun _ => Ex) s1 f) (h : spIL K (runIL N.length f) vs H Q Ex) (hn : 2 ≤ N.length) : ∃ t, PSs X body t ∧ t { nx := fun _ H' => Q .non H', rt := Q } (L2.start N vs) H := ⟨s1, pe, body_IL hs h hn⟩
end
/-! what it comes to -/
def SatL (r : Res (D × D × D)) (Q : D → D → D → Prop) : Prop := ∃ d e f, r = .ok (d, e, f) ∧ Q d e f
theorem w_callIL {f : MFl} {i j : Nat} {ρ : Env} {Q : D → Env → Prop} (hij : i ≠ j) (q : MU (mu ρ i) fun d0 => MU (mu ρ j) fun dm => SatL (f d0 dm) fun d d' e' => SETS (putMu ρ i d') fun ρ1 => SETS (putMu ρ1 j e') fun ρ2 => Q d ρ2) : Sat (mCallIL f i j ρ) Q := by
  obtain ⟨d0, e0, dm, e1, d, d', e', e4, q⟩ := q
  unfold SETS at q
  refine ⟨d, putMu (putMu ρ i d') j e', ?_, q⟩
  unfold mCallIL
  rw [e0]
  dsimp only
  rw [e1]
  dsimp only
  rw [if_neg hij, e4]
  rfl
def IO1 (ρ : Env) (N : D → Prop) : Prop := ∃ d, ρ[1]? = some (.io d) ∧ N d
theorem io_of1 {x0 : Sl} {d : D} {r : Env} {N : D → Prop} (q : N d) : IO1 (x0 :: .io d :: r) N := ⟨d, rfl, q⟩
theorem run_IL {n : Nat} {f : MS} {d0 dm : D} {Q : D → D → D → Prop} (q : SatS (f (envIL n d0 dm)) (fun ρ => IO ρ fun e => IO1 ρ fun g => Q .none e g) (fun d ρ => IO ρ fun e => IO1 ρ fun g => Q d e g) (fun _ => False) (fun _ => False) (fun _ _ _ => False)) : SatL (runIL n f d0 dm) Q := by
  unfold SatL runIL
  cases e : f (envIL n d0 dm) with
  | nx ρ =>
    rw [e] at q
    obtain ⟨z, e2, y, e3, q⟩ := q
    exact ⟨_, z, y, by dsimp only; unfold ioOf ioOf1; rw [e2, e3], q⟩
  | rt d ρ =>
    rw [e] at q
    obtain ⟨z, e2, y, e3, q⟩ := q
    exact ⟨_, z, y, by dsimp only; unfold ioOf ioOf1; rw [e2, e3], q⟩
  | _ => rw [e] at q; exact q.elim
/-! texts -/
section
variable {mo m : ME} {ρ : Env} {Q : D → Env → Prop} {f : D → D → Option D}
def ISS (d : D) (N : Prop) : Prop := (∃ x, d = .str x) ∧ N
theorem iss {x : Str} {N : Prop} (q : N) : ISS (.str x) N := ⟨⟨x, rfl⟩, q⟩
theorem w_m1 (q : Sat (mo ρ) fun d ρ1 => ISS d (Sat (m ρ1) fun e ρ2 => VAL (f d e) fun z => Q z ρ2)) : Sat (mM1 f mo m ρ) Q := by
  obtain ⟨d, ρ1, e1, ⟨x, rfl⟩, e, ρ2, e2, z, e3, q⟩ := q
  exact ⟨z, ρ2, by unfold mM1; rw [e1]; show (m ρ1).bind _ = _; rw [e2]; show ret _ _ = _; rw [e3]; rfl, q⟩
theorem v_start {a b : Str} {Q : D → Prop} (q : Q (.bool (Txt.startswith a b))) : VAL (fStart (.str a) (.str b)) Q := ⟨_, rfl, q⟩
theorem v_ends {a b : Str} {Q : D → Prop} (q : Q (.bool (Txt.endswith a b))) : VAL (fEnds (.str a) (.str b)) Q := ⟨_, rfl, q⟩
theorem v_joinL {a : Str} {ys : List Str} {Q : D → Prop} (h : (ys.map (·.length)).sum + ys.length * a.length ≤ 16777216) (q : Q (.str (Txt.join a ys))) : VAL (fJoin (.str a) (.list (ys.map .str))) Q := ⟨_, by show (strsD (ys.map .str)).bind _ = _; rw [strsD_map]; show (if _ then _ else _) = _; rw [if_pos h], q⟩
theorem v_joinT {a : Str} {ys : List Str} {Q : D → Prop} (h : (ys.map (·.length)).sum + ys.length * a.length ≤ 16777216) (q : Q (.str (Txt.join a ys))) : VAL (fJoin (.str a) (.tuple (ys.map .str))) Q := ⟨_, by show (strsD (ys.map .str)).bind _ = _; rw [strsD_map]; show (if _ then _ else _) = _; rw [if_pos h], q⟩
theorem v_split {a b : Str} {Q : D → Prop} (h : (b.length == 0) = false ∧ a.length + 2 ≤ 16777216) (q : Q (.list ((Txt.split a b).map .str))) : VAL (fSplit (.str a) (.str b)) Q := ⟨_, if_pos h, q⟩
theorem v_strS {a : Str} {Q : D → Prop} (q : Q (.str a)) : VAL (cbStrS [.str a]) Q := ⟨_, rfl, q⟩
theorem v_strI {i : Int} {Q : D → Prop} (h : i.natAbs.log2 < 1920) (q : Q (.str (toString i))) : VAL (cbStrS [.int i]) Q := ⟨_, if_pos h, q⟩
theorem v_intS {a : Str} {n : Int} {Q : D → Prop} (h : a.length ≤ 640) (e : PySem.intText? a = some n) (q : Q (.int n)) : VAL (cbIntS [.str a]) Q := ⟨_, by show (if _ then _ else _) = _; rw [if_pos h, e]; rfl, q⟩
theorem v_slS {z : Str} {lo hi : Option Int} {Q : D → Prop} (h : z.length ≤ 16777216) (q : Q (.str (cutS z lo hi))) : VAL (fSlS (.str z) lo hi) Q := ⟨_, if_pos h, q⟩
theorem v_ixS {z : Str} {i : Int} {c : Nat} {Q : D → Prop} (h : z.length ≤ 16777216) (e : atI z.cps.toList i = some c) (q : Q (.str ⟨#[c]⟩)) : VAL (fIxS (.str z) (.int i)) Q := ⟨_, by show (if _ then _ else _) = _; rw [if_pos h, e]; rfl, q⟩
theorem v_mulS {a : Str} {n : Int} {Q : D → Prop} (h : -9223372036854775808 ≤ n ∧ n < 9223372036854775808 ∧ (a.length : Int) * n ≤ 16777216) (q : Q (.str (mulS a n))) : VAL (fMulS (.str a) (.int n)) Q := ⟨_, if_pos h, q⟩
end
end Mi

set_option Elab.async false
set_option linter.all false
set_option maxRecDepth 100000
/-! a comprehension over an own list, which stays the def's own -/
namespace Mi
open PySem PySem.Spec PyProof.Rows L2
open Classical in
noncomputable def guard (j : Nat) (ds : List D) (tg : MG) : MG := fun d ρ => if mu ρ j = some (.list ds) then tg d ρ else none
open Classical in
noncomputable def mLcO (j : Nat) (tg : MG) (mt : MT) (me : ME) (vs : List Nat) : ME := fun ρ => match mu ρ j with
  | some (.list ds) => if vs.all (notIo ρ) = true ∧ j ∉ vs then (mLcL (guard j ds tg) mt me vs ds [] (wipeE ρ vs)).bind fun q => if mu q.2 j = some (.list ds) then .ok (.list q.1, restE ρ q.2 vs) else .stuck else .stuck
  | _ => .stuck
section
variable {K : PySem.W.Frag} {mg : Str → Option Value} {E : L2.St → XK} {t : TT} {te : TE} {mt : MT} {m : ME}
open Classical in
theorem shf_lcO {g : L2.TG} {tg : MG} {vs : List Nat} {j0 : Nat} {ts : List Nat} (hg : ShG K g tg ts) (sub : ∀ i ∈ ts, i ∈ vs) (ht : ShT K mg E t mt) (he : ShE K mg E te m) : ShF K mg E (tLc (iList K (tVar j0)) g t te vs) (mLcO j0 tg mt m vs) := by
  intro Φ F σ H ρ Q W r x gg
  unfold mLcO at gg
  split at gg
  rotate_left
  · exact gg.elim
  rename_i ds emu
  obtain ⟨a, ea, nFa, ow0⟩ := r.mu emu
  obtain ⟨vs0, h01, h02⟩ := ow0
  refine ⟨_, ea, a, rfl, ⟨vs0, SqL.of h01⟩, ?_⟩
  split at gg
  rotate_left
  · exact gg.elim
  rename_i okj
  obtain ⟨ok, jv⟩ := okj
  have gp := gg.bind
  clear gg
  intro D nD
  have n0 : Φ.H0 D = none := r.dom D nD
  have nF1 : F D = none := r.sub.free nD
  have n1 : Φ.F0 D = none := r.sub0.free nF1
  have ni : ∀ k, Φ.io k ≠ some D := fun k z => absurd n0 (r.io1 k D z).1
  have at_ : ∀ {Φ' : Fm} {F' : Hp} {H' : Hp} {ρ' : Env}, R K Φ' F' (L2.wipe σ vs) H' ρ' → mu ρ' j0 = some (.list ds) → ∃ us, H' a = some (.lst us) ∧ RpA K F' us ds := fun {Φ' F' H' ρ'} r' e => by
    obtain ⟨a', ea', _, ow⟩ := r'.mu e
    rw [wipe_out jv, ea] at ea'
    cases ea'
    exact ow
  generalize hP : (fun q : List Mi.D × Env => Good (if mu q.2 j0 = some (.list ds) then (Res.ok (PyData.list q.1, restE ρ q.2 vs) : Res (Mi.D × Env)) else .stuck) (fun p => ∀ a F' H', R K Φ F' σ H' p.2 → Same F F' → F' a = none → Φ.H0 a = none → (∀ (j : Nat) d, p.2[j]? = some (.own d) → σ[j]? ≠ some (some (.ref a))) → OwnR K F' H' a p.1 → Q (.ref a) H') (up F W)) = PP at gp
  refine ⟨fun i n H => ∃ F' ρ' vacc acc, R K (prot Φ D (.lst vacc)) F' (L2.wipe σ vs) H ρ' ∧ Same F F' ∧ RpA K F' vacc acc ∧ n = ds.length - i ∧ Good (mLcL (guard j0 ds tg) mt m vs (ds.drop i) acc ρ') PP (up F W), ?_, ?_⟩
  · obtain ⟨r2, nF, _, ap⟩ := (r.wipe vs ok).allocO (o := .lst []) nD
    exact ⟨_, F, _, [], [], r2.protect upd_same nF n0 ap, Same.refl _, .nil, rfl, gp⟩
  · rintro i n H' ⟨F', ρ', vacc, acc, r', s', ra, hn, g'⟩
    obtain ⟨eD, nF', ap, r''⟩ := r'.unprot (u := .lst vacc) n0 n1 ni
    have eH : upd H' D (.lst vacc) = H' := by
      funext b
      by_cases y : b = D
      · subst y; rw [upd_same, eD]
      · rw [upd_ne y]
    rw [eH] at r''
    cases e : ds[i]? with
    | none =>
      rw [List.drop_eq_nil_of_le (List.getElem?_eq_none_iff.mp e)] at g'
      have g' : PP (acc, ρ') := g'
      rw [← hP] at g'
      have g' : Good (if mu ρ' j0 = some (.list ds) then (Res.ok (PyData.list acc, restE ρ ρ' vs) : Res (Mi.D × Env)) else .stuck) (fun p => ∀ a F' H', R K Φ F' σ H' p.2 → Same F F' → F' a = none → Φ.H0 a = none → (∀ (j : Nat) d, p.2[j]? = some (.own d) → σ[j]? ≠ some (some (.ref a))) → OwnR K F' H' a p.1 → Q (.ref a) H') (up F W) := g'
      by_cases c : mu ρ' j0 = some (.list ds)
      · rw [if_pos c] at g'
        obtain ⟨us, u1, u2⟩ := at_ r' c
        refine .inl ⟨⟨us, SqL.of u1, by rw [u2.length]; exact List.getElem?_eq_none_iff.mp e⟩, ?_⟩
        have r3 := r.rest r'' s' ok
        refine g' D F' H' r3 s' nF' n0 (fun j d q z => ?_) ⟨vacc, eD, ra⟩
        rcases restE_get ρ vs q with ⟨_, y | ⟨_, y, _⟩⟩ | ⟨y1, y2⟩
        · cases y
        · cases y
        · exact ap j d y2 (by rw [wipe_out y1]; exact z)
      · rw [if_neg c] at g'
        exact g'.elim
    | some d =>
      have hlt : i < ds.length := (List.getElem?_eq_some_iff.mp e).1
      rw [drop_get e] at g'
      unfold mLcL at g'
      by_cases c : mu ρ' j0 = some (.list ds)
      rotate_left
      · rw [show guard j0 ds tg d ρ' = none from if_neg c] at g'
        exact g'.elim
      rw [show guard j0 ds tg d ρ' = tg d ρ' from if_pos c] at g'
      obtain ⟨us, u1, u2⟩ := at_ r' c
      obtain ⟨y0, e0, ry0⟩ := u2.get' e
      cases z : tg d ρ' with
      | none => rw [z] at g'; exact g'.elim
      | some ρ2 =>
        rw [z] at g'
        have g2 := Good.nx (W' := fun _ _ _ => False) (Good.bind (r := (mt ρ2).nx) g')
        refine .inr ⟨⟨us, y0, SqL.of u1, e0⟩, fun H3 => ∃ F' ρ' vacc acc, R K (prot Φ D (.lst vacc)) F' (L2.wipe σ vs) H3 ρ' ∧ Same F F' ∧ RpA K F' vacc acc ∧ Good (mLcL (guard j0 ds tg) mt m vs (ds.drop (i + 1)) acc ρ') PP (up F W), fun H3 ⟨F', ρ', va, ac, q1, q2, q3, q4⟩ => ⟨_, by subst hn; omega, F', ρ', va, ac, q1, q2, q3, rfl, q4⟩, fun v H3 y => ?_⟩
        obtain ⟨rfl, yv⟩ := y
        have ev := yv us (SqL.of u1)
        rw [e0] at ev
        cases ev
        refine hg _ F' _ H3 ρ' ρ2 _ d _ r' ry0 z fun σ2 r3 tch => ?_
        have ew : L2.wipe σ2 vs = L2.wipe σ vs := by rw [wipe_eq sub tch, wipe_wipe]
        refine ⟨ew, ht _ F' σ2 H3 ρ2 _ (fun _ _ _ _ => False) r3 xw_false (g2.mono (fun q gq F4 H4 r4 s4 => ?_) fun _ _ _ w => w.elim)⟩
        by_cases c : q.1 = true
        · rw [if_pos c] at gq ⊢
          have g3 := Good.nx (W' := fun _ _ _ => False) (Good.bind (r := (m q.2).nx) gq)
          refine he _ F4 σ2 H4 q.2 _ (fun _ _ _ _ => False) r4 xw_false (g3.mono (fun w gw y F5 H5 r5 s5 ry => ?_) fun _ _ _ w => w.elim)
          split at gw
          · rename_i hz
            have r6 := r5.wipe vs hz.2
            rw [ew] at r6
            obtain ⟨eD5, nF5, ap5, r7⟩ := r6.unprot (u := .lst (vacc ++ [y])) n0 n1 ni
            refine ⟨vacc, eD5, by rw [ra.length, sizeLine_eq]; exact hz.1, F5, _, vacc ++ [y], acc ++ [w.1], r7.protect upd_same nF5 n0 ap5, (s'.trans s4).trans s5, (ra.mono (s4.trans s5)).append (.cons ry .nil), gw⟩
          · exact gw.elim
        · rw [if_neg c] at gq ⊢
          split at gq
          · rename_i hz
            have r6 := r4.wipe vs hz
            rw [ew] at r6
            exact ⟨F4, _, vacc, acc, r6, s'.trans s4, ra.mono s4, gq⟩
          · exact gq.elim
end
open Classical in
theorem w_lcO {j : Nat} {tg : MG} {mt : MT} {m : ME} {vs : List Nat} {ρ : Env} {Q : D → Env → Prop} (hj : j ∉ vs) (q : MU (mu ρ j) fun z => ISLs z fun ds => LCB ρ vs fun ρ0 => LCW (guard j ds tg) mt m vs ds [] ρ0 fun es ρ2 => mu ρ2 j = some (.list ds) ∧ WIPE (restE ρ ρ2 vs) fun ρ3 => Q (.list es) ρ3) : Sat (mLcO j tg mt m vs ρ) Q := by
  obtain ⟨_, e0, ds, rfl, h, es, ρ2, e2, e3, q⟩ := q
  refine ⟨_, _, ?_, q⟩
  unfold mLcO
  rw [e0]
  dsimp only
  rw [if_pos ⟨h, hj⟩, e2]
  dsimp only [Res.bind]
  rw [if_pos e3]
open Classical in
theorem tg_guard {j : Nat} {ds : List D} {tg : MG} {d : D} {ρ : Env} {N : Env → Prop} (h : mu ρ j = some (.list ds)) (q : TG (tg d ρ) N) : TG (guard j ds tg d ρ) N := by
  obtain ⟨ρ1, e, q⟩ := q
  exact ⟨ρ1, by unfold guard; rw [if_pos h]; exact e, q⟩
end Mi

set_option Elab.async false
set_option linter.all false
set_option maxRecDepth 100000
namespace Mi.Fm
open PySem PySem.Spec PyProof.Rows Builtin Float PySem.W
/-! f-strings, wide division -/
/-- the two figures of a number below 100 -/
def pad2 (n : Nat) : Str := ⟨#[48 + n / 10, 48 + n % 10]⟩
def F02 : FormatSpec := match parseFormatSpec ("02d" : Str).cps.toList "int" 62 with | .ok f => f | .error _ => { align := 62 }
theorem p02 : parseFormatSpec ("02d" : Str).cps.toList "int" 62 = .ok F02 := by
  unfold F02
  rfl
theorem log_small {n : Nat} (hn : n < 100) : (n : Int).natAbs.log2 < 1920 := by
  have e : (n : Int).natAbs = n := Int.natAbs_natCast n
  rw [e]
  have : n.log2 < 7 := by
    by_cases z : n = 0
    · subst z; decide
    · exact (Nat.log2_lt z).mpr (by omega)
  omega
theorem wp_ret_eq {M : PySem.Model} {A : Around} {E : Value → Shared → Prop} {s : Shared} {Q : PySem.Fin → Shared → Prop} {x y : Str} (e : x = y) (h : wpAny M A (retStr y) Q E s) : wpAny M A (retStr x) Q E s := by rw [e]; exact h
theorem fld02 : ∀ k : _root_.Fin 100, intField' F02 (decide (((k.val : Nat) : Int) < 0)) [] ((Nat.toDigits 10 ((k.val : Nat) : Int).natAbs).map fun c => c.toNat) [] 3 = pad2 k.val := by decide +kernel
theorem gives_pad2 (n : Nat) (hn : n < 100) (t u : Tok) : Gives (Builtin.«int.__format__» ⟨[.int (n : Int) t, .str ("02d" : Str) u], []⟩) (.str (pad2 n)) := by
  intro pr wd Ar Rs st hq
  have hl := log_small hn
  have hne : ((("02d" : Str)).length == 0) = false := by decide +kernel
  have hasc : (((("02d" : Str)).cps.toList.drop 1).any (· ≥ 128) || ((("02d" : Str)).cps.getD 0 0 ≥ 128 && !([60, 62, 61, 94] : List Nat).contains ((("02d" : Str)).cps.getD 1 0))) = false := by decide +kernel
  have hp := p02
  have hty : F02.type.getD (if (("02d" : Str)).cps.back? == some 0 then 0 else 100) = 100 := by decide +kernel
  generalize hs : ("02d" : Str) = sp at hp hty hne hasc hq ⊢
  have e1 : F02.precision.isSome = false := by decide +kernel
  have e2 : F02.noNeg0 = false := by decide +kernel
  have e3 : F02.width.getD 0 ≤ 100000 := by decide +kernel
  have txt : ∀ g : FormatSpec → Nat → Str, (∀ k : Fin 100, g F02 k.val = pad2 k.val) → g F02 n = pad2 n := fun g h => h ⟨n, hn⟩
  generalize hF : F02 = f at hp hty e1 e2 e3 txt
  unfold Builtin.«int.__format__»; simp only [selfAndOne, noKeywords, Int.intOfSelf, asInt?, asStr?, List.isEmpty_nil, if_true, pure_bind, bind_pure, bind_assoc, hne, hasc, Bool.false_eq_true, if_false, show (Value.str sp u == Value.none) = false from rfl]
  refine wpAny_bind (wpAny_typeNameOf (T := "str") (typeIs_str _ _ _) (by decide) fun _ => wpAny_bind (wpAny_typeNameOfCut_int ?_))
  simp only [hp, hty]; rw [if_pos (by decide)]; show wpAny _ _ (if _ then _ else _) _ _ _
  rw [if_neg (by rw [e1]; decide)]; show wpAny _ _ (if _ then _ else _) _ _ _
  rw [if_neg (by rw [e2]; decide)]; show wpAny _ _ (if _ then _ else _) _ _ _
  rw [if_neg (by decide)]; show wpAny _ _ (do let r ← Builtin.overDigitLimit? (n : Int); _) _ _ _
  refine wpAny_bind (wpAny_of_eq (PySem.overDigitLimit_small hl) ?_)
  dsimp only
  show wpAny _ _ (if _ then _ else _) _ _ _; rw [if_neg (by omega)]; show wpAny _ _ (retStr _) _ _ _
  subst hF
  refine wp_ret_eq (y := pad2 n) ?_ ((Gives.of_eq rfl : Gives (retStr (pad2 n)) (.str (pad2 n))) pr wd Ar Rs st hq)
  clear hl hs hne hasc hp hty e1 e2 e3 txt hq
  have := fld02 ⟨n, hn⟩
  exact this
end Mi.Fm

namespace Mi
open PySem PySem.Spec PyProof.Rows L2
section
variable {X : Cx}
/-- {x:02d} of a number below 100 -/
def rFmt2 : V → Hp → VK → Prop := fun x H Q => ∃ n : Nat, x = .int (n : Int) ∧ n < 100 ∧ Q (.str (Fm.pad2 n)) H
theorem pe_fmt2 {e : Expr} {te : TE} {k : Nat} {p1 p2 pos : Pos} (he : PE X e te) : PE X (.FormattedValue e (-1) (some (.JoinedStr [.Constant (.str ("02d" : Str)) k p1] p2)) pos) (tUn rFmt2 te) := by
  refine ⟨fun pins s σ H Q I h => ?_⟩
  refine wpAny_FormattedValue_spec (thn (he.run pins s σ H _ I h) fun v s1 hv => ?_)
  obtain ⟨x, H1, I1, r1, n, rfl, hn, q⟩ := hv
  obtain ⟨t, rfl⟩ := r1
  refine wpAny_JoinedStr_one (wpAny_Constant_str ⟨_, _, rfl, ?_⟩)
  refine wpAny_formatField_spec (by decide +kernel) (fun s' => typeIs_int s' _ t) F.slot_int_format F.entry_int_format F.args_int_format_2 (fun u => Fm.gives_pad2 n hn t u) ⟨.str (Fm.pad2 n), H1, (I1.tok _).tok _ |>.tok _, ⟨_, rfl⟩, q⟩ (by rw [sizeLine_eq]; decide +kernel) ?_
  show (2 : Nat) ≤ sizeLine
  rw [sizeLine_eq]
  omega
def CDivN (_ j : Int) : Prop := j ≠ 0 ∧ j.natAbs.log2 < 9000
theorem op_fdivNW : OpR X (binaryOp .FloorDiv) (rI CDivN fun i j => .int (i.fdiv j)) := opI fun i j _ _ _ _ _ hc q => floordiv_int hc.1 q (.inl (PyProof.noPylong_of_log2 hc.2))
end
section
variable {K : PySem.W.Frag} {mg : Str → Option Value} {E : L2.St → XK} {t te : TE} {m : ME} {ρ : Env} {Q : D → Env → Prop}
def fDivN := f2c (fun _ j => decide (j ≠ 0) && decide (j.natAbs < 1000000000000000000000000000000000000000000000000000000000000)) fun i j => .int (i.fdiv j)
theorem s_fdivNW : OpSh K (rI CDivN fun i j => .int (i.fdiv j)) fDivN := (ops_int (fun i j h => by
  simp only [Bool.and_eq_true, decide_eq_true_eq] at h
  refine ⟨h.1, ?_⟩
  by_cases z : j.natAbs = 0
  · rw [z]; decide
  · have : j.natAbs < 2 ^ 200 := Nat.lt_of_lt_of_le h.2 (by decide +kernel)
    have := (Nat.log2_lt z).mpr this
    omega) fun _ _ _ => .int _).sh
theorem v_divN {a b : Int} {Q : D → Prop} (h : b ≠ 0 ∧ b.natAbs < 1000000000000000000000000000000000000000000000000000000000000) (q : Q (.int (a.fdiv b))) : VAL (fDivN (.int a) (.int b)) Q := ⟨_, by
  show (if (decide (b ≠ 0) && decide (b.natAbs < 1000000000000000000000000000000000000000000000000000000000000)) = true then _ else _) = _
  rw [if_pos (by rw [decide_eq_true h.1, decide_eq_true h.2]; rfl)], q⟩
/-! f-strings -/
def fFmt : D → Option D
  | .str y => if y.length ≤ 16777216 then some (.str y) else none
  | .int i => if i.natAbs.log2 < 1920 then some (.str (toString i)) else none
  | _ => none
def fFmt2 : D → Option D
  | .int i => if 0 ≤ i ∧ i < 100 then some (.str (Fm.pad2 i.toNat)) else none
  | _ => none
theorem u_fmt : UnSh K (fun x H Q => (∃ y : Str, x = .str y ∧ y.length ≤ sizeLine ∧ Q (.str y) H) ∨ ∃ i : Int, x = .int i ∧ i.natAbs.log2 < 1920 ∧ Q (.str (toString i)) H) fFmt := fun F H x dx d Q s rx e q => by
  unfold fFmt at e
  split at e
  · split at e
    · cases e; cases rx
      exact .inl ⟨_, rfl, by rw [sizeLine_eq]; assumption, q _ (.str _)⟩
    · cases e
  · split at e
    · cases e; cases rx
      exact .inr ⟨_, rfl, by assumption, q _ (.str _)⟩
    · cases e
  · cases e
theorem u_fmt2 : UnSh K rFmt2 fFmt2 := fun F H x dx d Q s rx e q => by
  unfold fFmt2 at e
  split at e
  · split at e
    · rename_i i h
      cases e; cases rx
      exact ⟨i.toNat, by rw [Int.toNat_of_nonneg h.1], by omega, q _ (.str _)⟩
    · cases e
  · cases e
theorem v_fmtS {y : Str} {Q : D → Prop} (h : y.length ≤ 16777216) (q : Q (.str y)) : VAL (fFmt (.str y)) Q := ⟨_, if_pos h, q⟩
theorem v_fmtI {i : Int} {Q : D → Prop} (h : i.natAbs.log2 < 1920) (q : Q (.str (toString i))) : VAL (fFmt (.int i)) Q := ⟨_, if_pos h, q⟩
theorem v_fmt2 {i : Int} {Q : D → Prop} (h : 0 ≤ i ∧ i < 100) (q : Q (.str (Fm.pad2 i.toNat))) : VAL (fFmt2 (.int i)) Q := ⟨_, if_pos h, q⟩
def mJs : List ME → Str → ME
  | [], acc => fun ρ => .ok (.str acc, ρ)
  | m :: ms, acc => fun ρ => (m ρ).bind fun p => match p.1 with
    | .str y => if (acc ++ y).length ≤ 16777216 then mJs ms (acc ++ y) p.2 else .stuck
    | _ => .stuck
inductive ShJ (K : PySem.W.Frag) (mg : Str → Option Value) (E : L2.St → XK) : List TE → List ME → Prop
  | nil : ShJ K mg E [] []
  | cons {t : TE} {m : ME} {ts : List TE} {ms : List ME} (h : ShE K mg E t m) (r : ShJ K mg E ts ms) : ShJ K mg E (t :: ts) (m :: ms)
theorem shj_run {ts : List TE} {ms : List ME} (h : ShJ K mg E ts ms) : ∀ acc : Str, ShE K mg E (fun σ H Q => tJs ts acc σ H fun out H1 => Q (.str out) H1) (mJs ms acc) := by
  induction h with
  | nil => exact fun acc Φ F σ H ρ Q W r x g => g _ F H r (Same.refl _) (.str _)
  | cons h _ ih =>
    intro acc Φ F σ H ρ Q W r x g
    refine h Φ F σ H ρ _ W r x ((Good.bind g).mono (fun p gp v F1 H1 r1 s1 rv => ?_) fun _ _ _ w => w)
    obtain ⟨d, ρ'⟩ := p
    cases rv <;> try (exact False.elim gp)
    rename_i y
    have gp : Good (if (acc ++ y).length ≤ 16777216 then mJs _ (acc ++ y) ρ' else .stuck) _ _ := gp
    by_cases hz : (acc ++ y).length ≤ 16777216
    · rw [if_pos hz] at gp
      exact ⟨y, rfl, by rw [sizeLine_eq]; exact hz, ih (acc ++ y) Φ F1 σ H1 ρ' Q W r1 x (gp.mono (fun p gp v F' H' r' s' rv => gp v F' H' r' (s1.trans s') rv) fun _ _ _ w => up.weak s1 w)⟩
    · rw [if_neg hz] at gp
      exact gp.elim
def JP (acc : Str) (d : D) (N : Str → Prop) : Prop := ∃ y : Str, d = .str y ∧ (acc ++ y).length ≤ 16777216 ∧ N (acc ++ y)
theorem jp_ {acc y : Str} {N : Str → Prop} (h : (acc ++ y).length ≤ 16777216) (q : N (acc ++ y)) : JP acc (.str y) N := ⟨y, rfl, h, q⟩
theorem w_js0 {acc : Str} (q : Q (.str acc) ρ) : Sat (mJs [] acc ρ) Q := ⟨_, _, rfl, q⟩
theorem w_js1 {ms : List ME} {acc : Str} (q : Sat (m ρ) fun d ρ1 => JP acc d fun z => Sat (mJs ms z ρ1) Q) : Sat (mJs (m :: ms) acc ρ) Q := by
  obtain ⟨d, ρ1, e1, y, rfl, hz, d2, ρ2, e2, q⟩ := q
  refine ⟨d2, ρ2, ?_, q⟩
  unfold mJs
  rw [e1]
  show (if (acc ++ y).length ≤ 16777216 then mJs ms (acc ++ y) ρ1 else .stuck) = _
  rw [if_pos hz]
  exact e2
end
end Mi

set_option Elab.async false
set_option linter.all false
set_option maxRecDepth 100000
/-! loops over enumerate(text, k) and zip(text, tuple) -/
namespace Mi
open PySem PySem.Spec PyProof.Rows L2
section
def ItW (go : Hp → Prop) (pr : List (List V)) : It := ⟨fun i H => i < pr.length ∧ go H, fun i H v H' => ∃ T vs, pr[i]? = some vs ∧ v = .ref T ∧ H T = none ∧ H' = upd H T (.tup vs), fun i H => pr.length ≤ i ∧ go H⟩
theorem turn_of {P : Program} {w : World} {K : PySem.W.Frag} {elts : List Expr} {kk : Nat} {tpos : Pos} {go : Hp → Prop} {pr : List (List V)} {fp : List Addr} {it : Addr} {tn : Nat → Heap → Prop} (hm : it ∈ fp)
    (ho : ∀ i h, tn i h → ∀ b ∈ fp, ∃ o, h.get? b = some o ∧ ∀ v, o.data ≠ .cell v) (hk : ∀ i h h', tn i h → (∀ b ∈ fp, ∀ o, h.get? b = some o → h'.get? b = some o) → tn i h')
    (hs : ∀ (A : Around) (i : Nat) (s : Shared) (Q : Value → Shared → Prop) (E : Value → Shared → Prop), tn i s.heap → Q (.ref it) s → wpAny (model P w) A (pyIter (.ref it)) Q E s) (h2 : ∀ vs ∈ pr, vs.length = 2) (hn : ∀ i h, tn i h → i ≤ pr.length)
    (W : ∀ (X : Cx), X.prog = P → X.w = w → X.K = K → X.calm = true → ∀ pins s σ H, Inv X pins σ H s → go H → ∃ fp' wr Pt St Mid, WalksT P w X.A it fp' wr pr.length Pt St Mid ∧ (∀ b ∈ wr, b ∈ fp) ∧ (∀ i, tn i s.heap → St i s.heap) ∧ (∀ i h, i ≤ pr.length → St i h → tn i h) ∧ ∀ i vals, Pt i vals → ∃ vs, pr[i]? = some vs ∧ Vals vs vals.toList) :
    Turn P w K (.Tuple elts kk tpos) (ItW go pr) fp it tn where
  mem := hm
  obj := ho
  keep := hk
  self := hs
  item := by
    intro X hP hw hK hc i pins s σ H E I hf st hg
    subst hP hw hK
    obtain ⟨hlt, hgo⟩ := hg
    obtain ⟨fp', wr, Pt, St, Mid, w0, w1, w2, w3, w4⟩ := W X rfl rfl rfl hc pins s σ H I hgo
    refine w0.item i s _ E hlt (w2 i st) fun T vals h1 tk hP hle hT hM k1 => ⟨_, rfl, ?_⟩
    have hTw := w0.apart i T _ hM
    refine w0.go elts kk tpos i T { s with heap := h1, toks := tk } _ E hM fun h3 hst k2 => ?_
    obtain ⟨vs, ev, rv⟩ := w4 i vals hP
    obtain ⟨o, eo, co, n, dn⟩ := hT
    have new : ObjOk X.prog X.w (upd H T (.tup vs)) h3 T (.tup vs) := ⟨by
      show vs.length ≤ sizeLine
      rw [h2 vs (List.mem_of_getElem? ev), sizeLine_eq]
      omega, vals.toList, rv, ⟨o, k2 T o hTw eo, co, n, by rw [dn]⟩⟩
    have I1 : Inv X pins σ (upd H T (.tup vs)) { s with heap := h3, toks := tk } := I.turnedNew (ch := fp) (fun b ob hb q => k2 b ob (fun z => hb (w1 b z)) (k1 b ob (fun z => hb (w1 b z)) q)) hf hle new
    refine ⟨.ref T, _, I1, rfl, ⟨T, vs, ev, rfl, I.hok.fresh hle, rfl⟩, w3 (i + 1) h3 hlt hst, fun b hb => ?_⟩
    obtain ⟨ob, eb, _⟩ := ho i _ st b hb
    rw [upd_ne (Nat.ne_of_lt (Nat.lt_of_lt_of_le (Heap.lt_size eb) hle))]
    exact (hf b hb).1
  done := by
    intro X hP hw hK hc i pins s σ H E I hf st hg
    subst hP hw hK
    obtain ⟨hge, hgo⟩ := hg
    obtain ⟨fp', wr, Pt, St, Mid, w0, w1, w2, w3, w4⟩ := W X rfl rfl rfl hc pins s σ H I hgo
    have hi : i = pr.length := Nat.le_antisymm (hn i _ st) hge
    subst hi
    exact w0.done s _ E (w2 _ st) fun h1 tk k1 => ⟨rfl, I.turnedL (ch := fp) (fun b ob hb q => k1 b ob (fun z => hb (w1 b z)) q) hf⟩
/-- what enumerate(text, k) yields -/
def enumV (k : Int) (x : Str) : List (List V) := x.cps.toList.zipIdx.map fun p => [V.int (k + ((p.2 : Nat) : Int)), V.str ⟨#[p.1]⟩]
theorem enumV_len {k : Int} {x : Str} : (enumV k x).length = x.cps.size := by unfold enumV; rw [List.length_map, List.length_zipIdx, Array.length_toList]
theorem enumV_at {k : Int} {x : Str} {i c : Nat} (e : x.cps[i]? = some c) : (enumV k x)[i]? = some [V.int (k + (i : Int)), V.str ⟨#[c]⟩] := by
  unfold enumV
  rw [List.getElem?_map, List.getElem?_zipIdx, Array.getElem?_toList, e]
  simp
theorem turn_enumS {P : Program} {w : World} {K : PySem.W.Frag} {elts : List Expr} {kk : Nat} {tpos : Pos} (x : Str) (t : Tok) (k : Int) (e it : Addr) (ne : e ≠ it) :
    Turn P w K (.Tuple elts kk tpos) (ItW (fun _ => True) (enumV k x)) [e, it] e (fun i h => i ≤ (enumV k x).length ∧ (∃ old, IsEnum h e it (k + (i : Int)) old) ∧ h.IsStrIter it (strIterType x) x t i) := by
  refine turn_of (List.mem_cons_self ..) (fun i h st b hb => ?_) (fun i h h' st q => ?_) (fun A i s Q E st q => ?_) (fun vs hv => ?_) (fun i h st => st.1) (fun X h1 h2 h3 hc pins s σ H I _ => ?_)
  · obtain ⟨_, ⟨old, he⟩, ⟨o, eo, _, dd⟩⟩ := st
    rcases List.mem_cons.mp hb with z | hb
    · rw [z]; exact ⟨_, he, fun v q => nomatch q⟩
    · rw [List.mem_singleton.mp hb]
      exact ⟨o, eo, fun v q => by rw [dd] at q; cases q⟩
  · obtain ⟨a, ⟨old, he⟩, o, eo, co, dd⟩ := st
    exact ⟨a, ⟨old, q e (by simp) _ he⟩, o, q it (by simp) o eo, co, dd⟩
  · obtain ⟨_, ⟨old, he⟩, _⟩ := st
    exact wpAny_pyIter_enum he q
  · unfold enumV at hv
    obtain ⟨p, _, rfl⟩ := List.mem_map.mp hv
    rfl
  · subst h1 h2
    have hh : X.A.in1.handled = none := by simp [I.ok.hd hc]
    have W := WalksT.enumFrom (A := X.A) k (Draws.text (prog := X.prog) (w := X.w) hh it x t) e ne (by simpa using ne) (by simp)
    rw [← enumV_len (k := k)] at W
    refine ⟨_, _, _, _, _, W, fun b hb => hb, fun i st => st.2, fun i h hi st => ⟨hi, st⟩, fun i vals hv => ?_⟩
    obtain ⟨tk, y, ⟨c, u, ec, rfl⟩, rfl⟩ := hv
    exact ⟨_, enumV_at ec, .cons ⟨_, rfl⟩ (.cons ⟨_, rfl⟩ .nil)⟩
def iEnumS (ta : TA) : TI := fun σ H R => ta σ H fun vs H1 => ∃ x k, vs = [.str x, .int k] ∧ 0 ≤ k ∧ k < 1000000000 ∧ R (ItW (fun _ => True) (enumV k x)) H1
theorem pi_enumS {X : Cx} {e e2 : Expr} {ta : TA} {p pos tpos : Pos} {elts : List Expr} {kk : Nat} (hg : Gl X "enumerate") (hm : X.mg "enumerate" = none) (ha : PA X [e, e2] ta)
    (hs : starEach [e, e2] X.env = (false, eval e X.env) :: starEach [e2] X.env := by rfl) (hpl : (backTo pos (starEach [e2] X.env)).any (·.1) = false := by rfl) :
    L2.PI X (.Tuple elts kk tpos) (.Call (.Name "enumerate" p) [e, e2] [] pos) (iEnumS ta) := by
  refine ⟨fun pins s σ H R I h => ?_⟩
  refine Call_ (ld_blt I hg hm boot_enumerate (PyProof.Rows.callWith_type1 (thn (ha.run pos pins s σ H _ I h) fun us s1 ⟨vs, H1, I1, r1, q1⟩ => ?_) hs hpl))
  obtain ⟨x, k, ex, k0, k1, q⟩ := q1
  subst ex
  cases r1 with
  | cons r rr =>
    cases rr with
    | cons r' rr =>
      cases rr
      obtain ⟨t, rfl⟩ := r
      obtain ⟨t', rfl⟩ := r'
      refine enum_begins (begins_text x t) trivial (by omega) (by omega) fun h' he hi hz hk => wpAny_pyIter_enum he ?_
      have I2 : Inv X pins σ H1 { s1 with heap := h' } := I1.kept (t' := s1.toks) hk
      refine ⟨s1.heap.objs.size + 1, [s1.heap.objs.size + 1, s1.heap.objs.size], _, _, H1, rfl, I2, turn_enumS x t k (s1.heap.objs.size + 1) s1.heap.objs.size (Nat.succ_ne_self _), ⟨Nat.zero_le _, ⟨.none, ?_⟩, ⟨_, hi, rfl, rfl⟩⟩, fun b hb => ?_, q⟩
      · rw [show k + ((0 : Nat) : Int) = k by simp]
        exact he
      · have hle : s1.heap.objs.size ≤ b := by
          rcases List.mem_cons.mp hb with z | z
          · rw [z]; exact Nat.le_add_right _ _
          · rw [List.mem_singleton.mp z]; exact Nat.le_refl _
        exact I1.fpOk hle (I1.hok.fresh hle)
theorem vals_back : ∀ {xs : List V} {us : List Value} {i : Nat} {u : Value}, Vals xs us → us[i]? = some u → ∃ x, xs[i]? = some x ∧ RelV x u
  | _, _, _, _, .nil, e => by simp at e
  | _, _, 0, _, .cons r _, e => by simp at e; subst e; exact ⟨_, rfl, r⟩
  | _, _, i + 1, _, .cons _ t, e => by
    obtain ⟨x, h1, h2⟩ := vals_back (i := i) t (by simpa using e)
    exact ⟨x, by simpa using h1, h2⟩
/-- what zip(text, tuple) yields -/
def zipV (x : Str) (ys : List V) : List (List V) := (x.cps.toList.zip ys).map fun p => [V.str ⟨#[p.1]⟩, p.2]
theorem zipV_len {x : Str} {ys : List V} : (zipV x ys).length = min x.cps.size ys.length := by unfold zipV; rw [List.length_map, List.length_zip, Array.length_toList]
theorem zipV_at {x : Str} {ys : List V} {i c : Nat} {y : V} (e : x.cps[i]? = some c) (e2 : ys[i]? = some y) : (zipV x ys)[i]? = some [V.str ⟨#[c]⟩, y] := by
  unfold zipV
  rw [List.getElem?_map, (List.getElem?_zip_eq_some (z := (c, y))).mpr ⟨by rw [Array.getElem?_toList]; exact e, e2⟩]
  rfl
theorem turn_zipST {P : Program} {w : World} {K : PySem.W.Frag} {elts : List Expr} {kk : Nat} {tpos : Pos} (x : Str) (t : Tok) (b N : Addr) (ys : List V) (hb : b < N) :
    Turn P w K (.Tuple elts kk tpos) (ItW (fun H => SqT K H b ys) (zipV x ys)) [N + 4, N + 2, N + 3, N, N + 1] (N + 4)
      (fun i h => i ≤ (zipV x ys).length ∧ IsZip h (N + 4) (N + 2) (N + 3) .none ∧ IsTupOf2 h (N + 2) (.ref N) (.ref (N + 1)) ∧ (∃ a1 a2, IsTupOf2 h (N + 3) a1 a2) ∧ h.IsStrIter N (strIterType x) x t i ∧ h.IsTupleIter (N + 1) b i) := by
  refine turn_of (List.mem_cons_self ..) (fun i h st c hc => ?_) (fun i h h' st q => ?_) (fun A i s Q E st q => ?_) (fun vs hv => ?_) (fun i h st => st.1) (fun X h1 h2 h3 hc pins s σ H I hq => ?_)
  · obtain ⟨_, hz, hT, ⟨a1, a2, hO⟩, ⟨o1, e1, _, d1⟩, ⟨o2, e2, _, d2⟩⟩ := st
    simp only [List.mem_cons, List.not_mem_nil, or_false] at hc
    rcases hc with z | z | z | z | z
    · rw [z]; exact ⟨_, hz, fun v q => nomatch q⟩
    · rw [z]; exact ⟨_, hT, fun v q => nomatch q⟩
    · rw [z]; exact ⟨_, hO, fun v q => nomatch q⟩
    · rw [z]; exact ⟨o1, e1, fun v q => by rw [d1] at q; cases q⟩
    · rw [z]; exact ⟨o2, e2, fun v q => by rw [d2] at q; cases q⟩
  · obtain ⟨a, hz, hT, ⟨a1, a2, hO⟩, ⟨o, eo, co, dd⟩, b2⟩ := st
    exact ⟨a, q _ (by simp) _ hz, q _ (by simp) _ hT, ⟨a1, a2, q _ (by simp) _ hO⟩, ⟨o, q N (by simp) o eo, co, dd⟩, b2.at fun o z => q (N + 1) (by simp) o z⟩
  · exact wpAny_pyIter_zip st.2.1 q
  · unfold zipV at hv
    obtain ⟨p, _, rfl⟩ := List.mem_map.mp hv
    rfl
  · subst h1 h2 h3
    have hh : X.A.in1.handled = none := by simp [I.ok.hd hc]
    obtain ⟨its, rv, pt, _⟩ := I.tuple hq
    have S : ZipSep2 (N + 4) (N + 2) (N + 3) N (N + 1) [N] [N + 1, b] := zip_sep2 (fp1 := []) (fp2 := [b]) (fun _ h => by cases h) (fun c h => by rw [List.mem_singleton.mp h]; exact hb)
    have W := WalksT.zipD2 (A := X.A) S (Draws.text (prog := X.prog) (w := X.w) hh N x t) (Draws.tuple (prog := X.prog) (w := X.w) hh (N + 1) b (Nat.ne_of_lt (Nat.lt_succ_of_lt hb)) its.toArray)
    have el : min x.cps.size its.toArray.size = (zipV x ys).length := by rw [zipV_len, rv.length]; simp
    rw [el] at W
    refine ⟨_, _, _, _, _, W, fun c hc => ?_, fun i st => ⟨st.2.1, st.2.2.1, st.2.2.2.1, st.2.2.2.2.1, st.2.2.2.2.2, pt⟩, fun i h hi st => ⟨hi, st.1, st.2.1, st.2.2.1, st.2.2.2.1, st.2.2.2.2.1⟩, fun i vals hv => ?_⟩
    · simp only [List.mem_cons, List.not_mem_nil, or_false] at hc ⊢
      rcases hc with z | z | z | z <;> simp [z]
    · obtain ⟨y1, y2, ⟨c, u, ec, rfl⟩, e2, rfl⟩ := hv
      have e2 : its[i]? = some y2 := by simpa using e2
      obtain ⟨y, ey, ry⟩ := vals_back rv e2
      exact ⟨_, zipV_at ec ey, .cons ⟨_, rfl⟩ (.cons ry .nil)⟩
def iZipST (K : PySem.W.Frag) (ta : TA) : TI := fun σ H R => ta σ H fun vs H1 => ∃ x b ys, vs = [.str x, .ref b] ∧ SqT K H1 b ys ∧ R (ItW (fun H => SqT K H b ys) (zipV x ys)) H1
theorem pi_zipST {X : Cx} {e e2 : Expr} {ta : TA} {p pos tpos : Pos} {elts : List Expr} {kk : Nat} (hg : Gl X "zip") (hm : X.mg "zip" = none) (ha : PA X [e, e2] ta)
    (hs : starEach [e, e2] X.env = (false, eval e X.env) :: starEach [e2] X.env := by rfl) (hpl : (backTo pos (starEach [e2] X.env)).any (·.1) = false := by rfl) :
    L2.PI X (.Tuple elts kk tpos) (.Call (.Name "zip" p) [e, e2] [] pos) (iZipST X.K ta) := by
  refine ⟨fun pins s σ H R I h => ?_⟩
  refine Call_ (ld_blt I hg hm PyProof.Rows.boot_zip (PyProof.Rows.callWith_type1 (thn (ha.run pos pins s σ H _ I h) fun us s1 ⟨vs, H1, I1, r1, q1⟩ => ?_) hs hpl))
  obtain ⟨x, b, ys, ex, hq, q⟩ := q1
  subst ex
  cases r1 with
  | cons r rr =>
    cases rr with
    | cons r' rr =>
      cases rr
      obtain ⟨t, rfl⟩ := r
      cases r'
      obtain ⟨its, rv, pt, _⟩ := I1.tuple hq
      obtain ⟨ob, eb, _⟩ := id pt
      refine zip_begins2 (begins_text x t) (begins_tuple b its.toArray) trivial pt fun h' hz hT hO hi1 hi2 hsz hk => wpAny_pyIter_zip hz ?_
      have I2 : Inv X pins σ H1 { s1 with heap := h' } := I1.kept (t' := s1.toks) hk
      refine ⟨s1.heap.objs.size + 4, [s1.heap.objs.size + 4, s1.heap.objs.size + 2, s1.heap.objs.size + 3, s1.heap.objs.size, s1.heap.objs.size + 1], _, _, H1, rfl, I2, turn_zipST x t b s1.heap.objs.size ys (Heap.lt_size eb), ⟨Nat.zero_le _, hz, hT, ⟨_, _, hO⟩, ⟨_, hi1, rfl, rfl⟩, ⟨_, hi2, rfl, rfl⟩⟩, fun c hc => ?_, q⟩
      have hle : s1.heap.objs.size ≤ c := by
        simp only [List.mem_cons, List.not_mem_nil, or_false] at hc
        rcases hc with z | z | z | z | z <;> rw [z]
        · exact Nat.le_add_right _ _
        · exact Nat.le_add_right _ _
        · exact Nat.le_add_right _ _
        · exact Nat.le_refl _
        · exact Nat.le_add_right _ _
      exact I1.fpOk hle (I1.hok.fresh hle)
end
end Mi
namespace Mi
open PySem PySem.Spec PyProof.Rows L2
section
variable {K : PySem.W.Frag} {mg : Str → Option Value} {E : L2.St → XK} {te : TE} {tr : TA} {m : ME} {ms : List ME} {ρ : Env} {Q : D → Env → Prop} {QA : List D → Env → Prop}
def enS (k : Int) (x : Str) : List D := x.cps.toList.zipIdx.map fun p => .tuple [.int (k + ((p.2 : Nat) : Int)), .str ⟨#[p.1]⟩]
theorem enS_len {k : Int} {x : Str} : (enS k x).length = x.cps.size := by unfold enS; rw [List.length_map, List.length_zipIdx, Array.length_toList]
theorem enS_get {k : Int} {x : Str} {i : Nat} {d : D} (e : (enS k x)[i]? = some d) : ∃ c, x.cps[i]? = some c ∧ d = .tuple [.int (k + (i : Int)), .str ⟨#[c]⟩] := by
  unfold enS at e
  rw [List.getElem?_map, List.getElem?_zipIdx, Array.getElem?_toList] at e
  cases z : x.cps[i]? with
  | none => rw [z] at e; cases e
  | some c =>
    rw [z] at e
    simp at e
    exact ⟨c, rfl, e.symm⟩
def itES (ms : List ME) : MA := fun ρ => (mA ms ρ).bind fun p => match p.1 with
  | [.str x, .int k] => if 0 ≤ k ∧ k < 1000000000 then .ok (enS k x, p.2) else .stuck
  | _ => .stuck
theorem walks_enumS {F : Hp} {x : Str} {k : Int} : Walks K (ItW (fun _ => True) (enumV k x)) F (enS k x) := fun F1 H sa sb i => by
  refine ⟨fun d e => ?_, fun e => ?_⟩
  · obtain ⟨c, ec, rfl⟩ := enS_get e
    have hi := (Array.getElem?_eq_some_iff.mp ec).1
    refine ⟨⟨by rw [enumV_len]; exact hi, trivial⟩, fun z H' q => ?_⟩
    obtain ⟨T, vs, ev, rfl, nT, rfl⟩ := q
    rw [enumV_at ec] at ev
    cases ev
    exact ⟨_, .inr ⟨T, _, nT, rfl, rfl⟩, .tup (SqT.of upd_same) (.cons (.int _) (.cons (.str _) .nil))⟩
  · have := List.getElem?_eq_none_iff.mp e
    rw [enS_len] at this
    exact ⟨by rw [enumV_len]; exact this, trivial⟩
theorem shi_enumS (h : ShA K mg E tr ms) : ShI K mg E (iEnumS tr) (itES ms) := by
  intro Φ F σ H ρ Rr W r x g
  have g1 := Good.bind (r := mA ms ρ) g
  refine h Φ F σ H ρ _ W r x (g1.mono (fun p gp vs F1 H1 r1 s1 rv el => ?_) fun _ _ _ w => w)
  obtain ⟨ds, ρ'⟩ := p
  dsimp only at gp rv r1
  split at gp
  · rename_i x k
    split at gp
    · rename_i hk
      obtain ⟨v, w, rfl, hv, hw⟩ := two_rp rv
      cases hv
      cases hw
      exact ⟨_, _, rfl, hk.1, hk.2, gp _ F1 H1 r1 s1 walks_enumS⟩
    · exact gp.elim
  · exact gp.elim
def ENS (ds : List D) (N : List D → Prop) : Prop := ∃ x k, ds = [.str x, .int k] ∧ (0 ≤ k ∧ k < 1000000000) ∧ N (enS k x)
theorem ens_ {x : Str} {k : Int} {N : List D → Prop} (h : 0 ≤ k ∧ k < 1000000000) (q : N (enS k x)) : ENS [.str x, .int k] N := ⟨_, _, rfl, h, q⟩
theorem w_enumS (q : SatA (mA ms ρ) fun ds ρ1 => ENS ds fun xs => QA xs ρ1) : SatA (itES ms ρ) QA := by
  obtain ⟨ds, ρ1, e1, x, k, rfl, hk, q⟩ := q
  exact ⟨_, ρ1, by unfold itES; rw [e1]; show (if 0 ≤ k ∧ k < 1000000000 then _ else _) = _; rw [if_pos hk], q⟩
/-! zip(text, tuple) -/
def zipS (x : Str) (ds : List D) : List D := zipD (signs x) ds
theorem signs_at {x : Str} {i : Nat} {d : D} (e : (signs x)[i]? = some d) : ∃ c, x.cps[i]? = some c ∧ d = .str ⟨#[c]⟩ := by
  unfold signs at e
  rw [List.getElem?_map, Array.getElem?_toList] at e
  cases z : x.cps[i]? with
  | none => rw [z] at e; cases e
  | some c => rw [z] at e; cases e; exact ⟨c, rfl, rfl⟩
def itZS (ms : List ME) : MA := fun ρ => (mA ms ρ).bind fun p => match p.1 with
  | [.str x, .tuple ds] => .ok (zipS x ds, p.2)
  | _ => .stuck
theorem walks_zipS {F : Hp} {x : Str} {b : Addr} {ys : List V} {ds : List D} (h : SqT K F b ys) (r : RpA K F ys ds) : Walks K (ItW (fun H => SqT K H b ys) (zipV x ys)) F (zipS x ds) := fun F1 H sa sb i => by
  refine ⟨fun d e => ?_, fun e => ?_⟩
  · obtain ⟨d1, d2, e1, e2, rfl⟩ := zipD_get e
    obtain ⟨c, ec, rfl⟩ := signs_at e1
    obtain ⟨y, ey, ry⟩ := r.get' e2
    have hi := (List.getElem?_eq_some_iff.mp (zipV_at ec ey)).1
    refine ⟨⟨hi, sb.seqT (sa.seqT h)⟩, fun z H' q => ?_⟩
    obtain ⟨T, vs, ev, rfl, nT, rfl⟩ := q
    rw [zipV_at ec ey] at ev
    cases ev
    have sT : Same F1 (upd F1 T (.tup [V.str ⟨#[c]⟩, y])) := sub_upd (sb.free nT)
    exact ⟨_, .inr ⟨T, _, nT, rfl, rfl⟩, .tup (SqT.of upd_same) (.cons (.str _) (.cons (ry.mono (sa.trans sT)) .nil))⟩
  · have := zipD_none e
    refine ⟨?_, sb.seqT (sa.seqT h)⟩
    rw [zipV_len]
    have l1 : (signs x).length = x.cps.size := by unfold signs; rw [List.length_map, Array.length_toList]
    have l2 := r.length
    omega
theorem shi_zipS (h : ShA K mg E tr ms) : ShI K mg E (iZipST K tr) (itZS ms) := by
  intro Φ F σ H ρ Rr W r x g
  have g1 := Good.bind (r := mA ms ρ) g
  refine h Φ F σ H ρ _ W r x (g1.mono (fun p gp vs F1 H1 r1 s1 rv el => ?_) fun _ _ _ w => w)
  obtain ⟨ds, ρ'⟩ := p
  dsimp only at gp rv r1
  split at gp
  · obtain ⟨v, w, rfl, hv, hw⟩ := two_rp rv
    cases hv
    cases hw with
    | tup h1 h2 => exact ⟨_, _, _, rfl, r1.sub.seqT h1, gp _ F1 H1 r1 s1 (walks_zipS h1 h2)⟩
  · exact gp.elim
def ZPS (ds : List D) (N : List D → Prop) : Prop := ∃ x es, ds = [.str x, .tuple es] ∧ N (zipS x es)
theorem zps_ {x : Str} {es : List D} {N : List D → Prop} (q : N (zipS x es)) : ZPS [.str x, .tuple es] N := ⟨_, _, rfl, q⟩
theorem w_zipS (q : SatA (mA ms ρ) fun ds ρ1 => ZPS ds fun xs => QA xs ρ1) : SatA (itZS ms ρ) QA := by
  obtain ⟨ds, ρ1, e1, x, es, rfl, q⟩ := q
  exact ⟨_, ρ1, by unfold itZS; rw [e1]; rfl, q⟩
end
end Mi

set_option Elab.async false
set_option linter.all false
set_option maxRecDepth 100000
/-! .get with a default of a dict that the module holds: texts by texts -/
namespace Mi
open PySem PySem.Spec PyProof.Rows L2
inductive EntS (w : World) : List DictEntry → List (Str × Str) → Prop
  | nil : EntS w [] []
  | cons {k v : Str} {t t' : Tok} {es : List DictEntry} {kvs : List (Str × Str)} (r : EntS w es kvs) : EntS w (⟨PyData.keyHash w.params k, .str k t, .str v t'⟩ :: es) ((k, v) :: kvs)
def valK (kvs : List (Str × Str)) (k : Str) : Option Str := (kvs.find? fun p => decide (p.1 = k)).map (·.2)
theorem EntS.find {w : World} {es : List DictEntry} {kvs : List (Str × Str)} (h : EntS w es kvs) (k : Str) : (valK kvs k = none ∧ (es.find? fun e => keyIs (.inr k) e.key).map (·.val) = none) ∨ ∃ x t, valK kvs k = some x ∧ (es.find? fun e => keyIs (.inr k) e.key).map (·.val) = some (.str x t) := by
  induction h with
  | nil => exact .inl ⟨rfl, rfl⟩
  | @cons k' v t t' es kvs r ih =>
    unfold valK at ih ⊢
    rw [List.find?_cons, List.find?_cons]
    by_cases e : k' = k
    · subst e
      rw [show keyIs (.inr k') (Value.str k' t) = true from keyIs_str k' t, decide_eq_true rfl]
      exact .inr ⟨v, t', rfl, rfl⟩
    · have : keyIs (.inr k) (Value.str k' t) = false := by
        cases z : keyIs (.inr k) (Value.str k' t) with
        | false => rfl
        | true =>
          rcases keyIs_shape z with ⟨i, t, h1, h2⟩ | ⟨x, t, h1, h2⟩
          · cases h2
          · cases h1
            injection h2 with h2
            exact (e h2).elim
      rw [this, decide_eq_false e]
      exact ih
theorem EntS.keys {P : Program} {w : World} {es : List DictEntry} {kvs : List (Str × Str)} (h : EntS w es kvs) : ∀ e ∈ es, ∃ k, (mixKind P w).is k e.key = true ∧ e.hash = (mixKind P w).hash k := by
  induction h with
  | nil => exact fun e he => nomatch he
  | @cons k' v t t' es kvs r ih =>
    intro e he
    rcases List.mem_cons.mp he with rfl | he
    · exact ⟨.inr k', keyIs_str k' t, rfl⟩
    · exact ih e he
/-- what the module holds at a -/
def KTab (K : PySem.W.Frag) (w : World) (a : Addr) (kvs : List (Str × Str)) : Prop := (a == sysModules) = false ∧ ∃ es n, K.lookup a = some ⟨.type "dict", none, .dict es n, #[]⟩ ∧ EntS w es.toList kvs
theorem ktab_of {K : PySem.W.Frag} {w : World} {a : Addr} {es : Array DictEntry} {n : Nat} {kvs : List (Str × Str)} (h : K.lookup a = some ⟨.type "dict", none, .dict es n, #[]⟩) (hs : (a == sysModules) = false) (e : EntS w es.toList kvs) : KTab K w a kvs := ⟨hs, es, n, h, e⟩
def tKG (kvs : List (Str × Str)) (ty tx : TE) : TE := fun σ H Q => ty σ H fun y H1 => tx σ H1 fun z H2 => ∃ k, y = .str k ∧ Q (((valK kvs k).map V.str).getD z) H2
theorem pe_kget {X : Cx} {x : Str} {e f : Expr} {apos cpos pos : Pos} {ty tx : TE} {a : Addr} {kvs : List (Str × Str)} (hg : Gl X x) (hm : X.mg x = some (.ref a)) (kt : KTab X.K X.w a kvs) (he : PE X e ty) (hf : PE X f tx) (m : M2 X (.Name x pos) "get" apos e f cpos) (hd : (x == ("__debug__" : Str)) = false := by decide) :
    PE X (.Call (.Attribute (.Name x pos) "get" apos) [e, f] [] cpos) (tKG kvs ty tx) := by
  refine ⟨fun pins s σ H Q I h => ?_⟩
  refine wpAny_Call_method m.base m.few m.line PySem.F.plainAttrs_dict PySem.F.slot_dict_get PySem.F.type_dict_get (ld_glob I hg hm ?_ hd)
  obtain ⟨hsm, es, n, hk, en⟩ := kt
  have o := I.kIn a _ hk
  refine ⟨⟨_, o, rfl⟩, fun b q => by cases q; exact ⟨_, o, rfl⟩, ?_⟩
  rw [m.trees]
  refine Calls.callWith_builtin rfl (Calls.evalArgs_plain (Calls.spliced_cons (thn (he.run pins _ σ H _ I h) fun iv s2 ⟨y, H2, I2, ry, q2⟩ =>
    Calls.spliced_cons (thn (hf.run pins s2 σ H2 _ I2 q2) fun fv s3 ⟨z, H3, I3, rz, k, ey, q3⟩ => Calls.spliced_nil ?_))))
  subst ey
  have o3 := I3.kIn a _ hk
  have mo : s3.heap.MapOf (mixKind X.prog X.w) a (fun j => findBy (mixKind X.prog X.w).is es j) := ⟨_, es, n, o3, ⟨rfl, rfl, rfl⟩, rfl, fun e he => en.keys e (by simpa using he), fun _ => rfl⟩
  refine call_meetsIn PySem.F.slot_dict_get mo.typeIs PySem.F.entry_dict_get (PySem.F.args_dict_get_3 _ _ _) (meets_dict_get_default (k := .inr k) (mixKind X.prog X.w) a (kV_is (k := .inr k) ry) hsm fv) ⟨_, mo, ?_⟩
  refine ⟨((valK kvs k).map V.str).getD z, H3, I3.tok _, ?_, q3⟩
  have ef : findBy (mixKind X.prog X.w).is es (.inr k) = (es.toList.find? fun e => keyIs (.inr k) e.key).map (·.val) := by
    unfold findBy
    rw [← Array.find?_toList]
    rfl
  rw [ef]
  rcases en.find k with ⟨h1, h2⟩ | ⟨x, t, h1, h2⟩
  · rw [h1, h2]; exact rz
  · rw [h1, h2]; exact ⟨t, rfl⟩
section
variable {K : PySem.W.Frag} {mg : Str → Option Value} {E : L2.St → XK} {ty tx : TE} {m mk mx : ME} {ρ : Env} {Q : D → Env → Prop}
def mKG (kvs : List (Str × Str)) (mk mx : ME) : ME := fun ρ => (mk ρ).bind fun q => (mx q.2).bind fun r => match q.1 with
  | .str k => .ok (((valK kvs k).map PyData.str).getD r.1, r.2)
  | _ => .stuck
theorem sh_kg {kvs : List (Str × Str)} (hk : ShE K mg E ty mk) (hx : ShE K mg E tx mx) : ShE K mg E (tKG kvs ty tx) (mKG kvs mk mx) := by
  intro Φ F σ H ρ Q W rr x g
  have g2 := Good.bind (r := mk ρ) g
  refine hk Φ F σ H ρ _ W rr x (g2.mono (fun q gq v2 F2 H2 r2 s2 rv2 => ?_) fun _ _ _ w => w)
  have g3 := gq.bind
  refine hx Φ F2 σ H2 q.2 _ W r2 x (g3.mono (fun r gr v3 F3 H3 r3 s3 rv3 => ?_) fun _ _ _ w => up.weak s2 w)
  obtain ⟨q1, q2⟩ := q
  cases rv2 <;> try (exact False.elim gr)
  rename_i k
  refine ⟨k, rfl, ?_⟩
  refine gr _ F3 H3 r3 (s2.trans s3) ?_
  show Rp K F3 (((valK kvs k).map V.str).getD v3) (((valK kvs k).map PyData.str).getD r.1)
  cases valK kvs k with
  | none => exact rv3
  | some z => exact .str _
/-- what the walk asks of the key -/
def KG (kvs : List (Str × Str)) (d x : D) (N : D → Prop) : Prop := ∃ k, d = .str k ∧ N (((valK kvs k).map PyData.str).getD x)
theorem kg_ {kvs : List (Str × Str)} {k : Str} {x : D} {N : D → Prop} (q : N (((valK kvs k).map PyData.str).getD x)) : KG kvs (.str k) x N := ⟨k, rfl, q⟩
theorem w_kg {kvs : List (Str × Str)} (q : Sat (mk ρ) fun b ρ2 => Sat (mx ρ2) fun c ρ3 => KG kvs b c fun d => Q d ρ3) : Sat (mKG kvs mk mx ρ) Q := by
  obtain ⟨b, ρ2, e2, c, ρ3, e3, k, rfl, q⟩ := q
  exact ⟨_, ρ3, by unfold mKG; rw [e2]; show (mx ρ2).bind _ = _; rw [e3]; rfl, q⟩
end
end Mi

set_option Elab.async false
set_option linter.all false
set_option maxRecDepth 100000
/-! own objects that are looked at and stay own: isinstance, ==, k in d, list(x), a loop over x -/
namespace Mi
open PySem PySem.Spec PyProof.Rows L2
section
variable {K : PySem.W.Frag} {mg : Str → Option Value} {E : L2.St → XK} {te ty td : TE} {m mk md : ME} {ρ : Env}
/-- an own object, seen as a fixed one -/
theorem frz_own {F H : Hp} {a : Addr} {d : D} (s : Same F H) (ow : OwnR K F H a d) : ∃ F', Same F F' ∧ Same F' H ∧ Rp K F' (.ref a) d := by
  have key : ∀ o, H a = some o → Same F (upd F a o) ∧ Same (upd F a o) H := fun o e => by
    refine ⟨fun b u q => ?_, fun b u q => ?_⟩
    · by_cases y : b = a
      · subst y
        have := s _ _ q
        rw [e] at this
        rw [upd_same]
        exact this
      · rw [upd_ne y]; exact q
    · by_cases y : b = a
      · subst y
        rw [upd_same] at q
        rw [e]; exact q
      · rw [upd_ne y] at q; exact s _ _ q
  cases d with
  | list ds =>
    obtain ⟨vs, h1, h2⟩ := ow
    obtain ⟨s1, s2⟩ := key _ h1
    exact ⟨_, s1, s2, .lst upd_same (h2.mono s1)⟩
  | dict ds =>
    obtain ⟨vs, h1, h2⟩ := ow
    obtain ⟨s1, s2⟩ := key _ h1
    exact ⟨_, s1, s2, .dic upd_same (h2.mono s1)⟩
  | _ => exact ow.elim
theorem own_R {F H : Hp} {a : Addr} {d : D} (ow : OwnS K F H a d) (h : (∃ ds, d = .list ds) ∨ ∃ ds, d = .dict ds) : OwnR K F H a d := by
  rcases h with ⟨ds, rfl⟩ | ⟨ds, rfl⟩
  · exact ow
  · exact ow
def isLD : D → Bool
  | .list _ => true
  | .dict _ => true
  | _ => false
theorem isLD_ok {d : D} (h : isLD d = true) : (∃ ds, d = .list ds) ∨ ∃ ds, d = .dict ds := by
  cases d <;> first | exact .inl ⟨_, rfl⟩ | exact .inr ⟨_, rfl⟩ | cases h
/-- a rule that answers true or false, over an own object -/
theorem pk_of {r : L2.R2} {f g : D → D → Option D} (ho : OpS K r f) (hg : ∀ d e z, g d e = some z → isLD d = true ∧ f d e = some z ∧ ∃ b, z = .bool b) : PkSh K r g := by
  intro F H a y d dy z Q s ow ry e q
  obtain ⟨h1, h2, b, rfl⟩ := hg _ _ _ e
  obtain ⟨F', s1, s2, rx⟩ := frz_own s (own_R ow (isLD_ok h1))
  refine ho F' H (.ref a) y d dy _ Q s2 rx (ry.mono s1) h2 fun v rv => ?_
  cases rv
  exact q _ (.bl _)
theorem ops_neD : OpS K (rNeD K) fNeD := fun F H x y dx dy d Q s rx ry e q => by
  unfold fNeD at e
  split at e
  · rename_i h
    rw [Bool.and_eq_true] at h
    cases e
    obtain ⟨h1, h2⟩ := okD_ok s rx h.1
    obtain ⟨h3, h4⟩ := okD_ok s ry h.2
    exact ⟨_, _, h1, h3, h2, h4, q _ (.bl _)⟩
  · cases e
def gNeD (a b : D) : Option D := if isLD a = true then fNeD a b else none
theorem pk_neD : PkSh K (rNeD K) gNeD := pk_of ops_neD fun d e z h => by
  unfold gNeD at h
  split at h
  · refine ⟨by assumption, h, ?_⟩
    unfold fNeD at h
    split at h
    · cases h; exact ⟨_, rfl⟩
    · cases h
  · cases h
theorem s_gNeD : OpSh K (rNeD K) gNeD := OpS.sh fun F H x y dx dy d Q s rx ry e q => by
  unfold gNeD at e
  split at e
  · exact ops_neD F H x y dx dy d Q s rx ry e q
  · cases e
/-- x != e -/
def mNeV (j : Nat) (m : ME) : ME := mPk j m gNeD
theorem sh_neV {j : Nat} (h : ShE K mg E te m) : ShE K mg E (tOp (rNeD K) (tVar j) te) (mNeV j m) := sh_pk pk_neD s_gNeD h
/-- isinstance(x, T) of an own list -/
def mIsiV (n : String) (j : Nat) : ME := fun ρ => match mu ρ j with
  | some (.list ds) => (match isiD n (.list ds) with
    | some b => .ok (.bool b, ρ)
    | none => .stuck)
  | _ => .stuck
theorem sh_isiV {n : String} {j : Nat} : ShE K mg E (tCB (rIsi K) (tCons (tVar j) (tCons (tC (.ty n)) tNil))) (mIsiV n j) := by
  intro Φ F σ H ρ Q W r x g
  unfold mIsiV at g
  split at g
  · rename_i ds e
    obtain ⟨a, ea, nF, vs, h1, h2⟩ := r.mu e
    cases ei : isiD n (.list ds) with
    | none => rw [ei] at g; exact g.elim
    | some b =>
      rw [ei] at g
      have ek : kitB "list" n = some b := ei
      exact ⟨_, ea, .ref a, .ty n, _, _, b, rfl, .ty n, .base (.lst h1), kit_ty ek, g _ F H r (Same.refl _) (.bl b)⟩
  · exact g.elim
/-- k in d, k not in d of an own dict -/
def mDInV (neg : Bool) (mk : ME) (j : Nat) : ME := fun ρ => match mu ρ j with
  | some _ => (mk ρ).bind fun p => match mu p.2 j with
    | some (.dict kds) => (match keyD p.1 with
      | some k => .ok (.bool ((valD kds k).isSome ^^ neg), p.2)
      | none => .stuck)
    | _ => .stuck
  | none => .stuck
theorem dinv_ok {neg : Bool} {j : Nat} {Φ : Fm} {F : Hp} {σ : L2.St} {H : Hp} {Q : VK} {W : WXm} (hk : ShE K mg E ty mk) (rr : R K Φ F σ H ρ) (x : XW K mg Φ E W)
    (g : Good (mDInV neg mk j ρ) (fun p => ∀ v F' H', R K Φ F' σ H' p.2 → Same F F' → Rp K F' v p.1 → Q v H') (up F W)) :
    ty σ H fun y H1 => ∃ v, σ[j]? = some (some v) ∧ ∃ a o, v = .ref a ∧ DGet H1 a y o ∧ Q (.bl (if neg = true then !o.isSome else o.isSome)) H1 := by
  unfold mDInV at g
  split at g
  rotate_left
  · exact g.elim
  refine hk Φ F σ H ρ _ W rr x ((Good.bind (r := mk ρ) g).mono (fun p gp v F1 H1 r1 s1 rv => ?_) fun _ _ _ w => w)
  split at gp
  · rename_i kds e1
    obtain ⟨a, ea, nF, kvs, h1, h2⟩ := r1.mu e1
    cases ek : keyD p.1 with
    | none => rw [ek] at gp; exact gp.elim
    | some k =>
      rw [ek] at gp
      obtain ⟨rfl, _⟩ := keyD_ok rv ek
      refine ⟨.ref a, ea, a, valV kvs k, rfl, DGet.k h1, ?_⟩
      have e2 : (if neg = true then !(valV kvs k).isSome else (valV kvs k).isSome) = ((valD kds k).isSome ^^ neg) := by
        rcases valD_ok (k := k) h2 with ⟨q1, q2⟩ | ⟨_, _, q1, q2, _⟩
        · rw [q1, q2]; cases neg <;> rfl
        · rw [q1, q2]; cases neg <;> rfl
      rw [e2]
      exact gp _ F1 H1 r1 s1 (.bl _)
  · exact gp.elim
theorem sh_dinV {j : Nat} (hk : ShE K mg E ty mk) : ShE K mg E (tDIn ty (tVar j)) (mDInV false mk j) := fun Φ F σ H ρ Q W rr x g => dinv_ok (neg := false) (Q := Q) hk rr x g
theorem sh_dnotinV {j : Nat} (hk : ShE K mg E ty mk) : ShE K mg E (tDNotIn ty (tVar j)) (mDInV true mk j) := fun Φ F σ H ρ Q W rr x g => dinv_ok (neg := true) (Q := Q) hk rr x g
/-- list(x) of an own list -/
def mLstV (j : Nat) : ME := fun ρ => match mu ρ j with
  | some (.list ds) => .ok (.list ds, ρ)
  | _ => .stuck
theorem shf_lstV {j : Nat} : ShF K mg E (tCB (fun xs H Q => ∃ p ys, xs = [.ref p] ∧ (SqL K H p ys ∨ SqT K H p ys) ∧ ∀ l, H l = none → Q (.ref l) (upd H l (.lst ys))) (tCons (tVar j) tNil)) (mLstV j) := by
  intro Φ F σ H ρ Q W r x g
  unfold mLstV at g
  split at g
  · rename_i ds e
    obtain ⟨a, ea, nF, vs, h1, h2⟩ := r.mu e
    refine ⟨_, ea, a, vs, rfl, .inl (SqL.of h1), fun l hl => ?_⟩
    obtain ⟨r2, nF2, n0, ap⟩ := r.allocO (o := .lst vs) hl
    exact g l F _ r2 (Same.refl _) nF2 n0 ap ⟨vs, upd_same, h2⟩
  · exact g.elim
end
/-! a loop over an own list, which stays own: while it runs, the list is the loop's own io object -/
def lend (Φ : Fm) (j : Nat) (p : Addr) (o : HO) (hi : ∀ k, Φ.io k ≠ some p) : Fm := ⟨upd Φ.H0 p o, fun k => if k = j then some p else Φ.io k, Φ.F0, fun k l a h1 h2 => by
  by_cases ek : k = j
  · by_cases el : l = j
    · rw [ek, el]
    · have h1 : (if k = j then some p else Φ.io k) = some a := h1
      have h2 : (if l = j then some p else Φ.io l) = some a := h2
      rw [if_pos ek] at h1
      rw [if_neg el] at h2
      cases h1
      exact absurd h2 (hi l)
  · have h1 : (if k = j then some p else Φ.io k) = some a := h1
    have h2 : (if l = j then some p else Φ.io l) = some a := h2
    rw [if_neg ek] at h1
    by_cases el : l = j
    · rw [if_pos el] at h2
      cases h2
      exact absurd h1 (hi k)
    · rw [if_neg el] at h2
      exact Φ.inj k l a h1 h2⟩
section
variable {K : PySem.W.Frag} {mg : Str → Option Value} {E : L2.St → XK} {s1 : TS} {m1 : MS}
theorem setE_same {ρ : Env} {j : Nat} {s : Sl} {x : Sl} (e : ρ[j]? = some x) : (ρ.set j s)[j]? = some s := by
  rw [List.getElem?_set_self (List.getElem?_eq_some_iff.mp e).1]
theorem setE_ne {ρ : Env} {i j : Nat} {s : Sl} (h : i ≠ j) : (ρ.set j s)[i]? = ρ[i]? := List.getElem?_set_ne (Ne.symm h)
theorem R.lend {Φ : Fm} {F H : Hp} {σ : L2.St} {ρ : Env} {j : Nat} {d : D} (h : R K Φ F σ H ρ) (e : ρ[j]? = some (.own d)) :
    ∃ p o, σ[j]? = some (some (.ref p)) ∧ H p = some o ∧ F p = none ∧ Φ.H0 p = none ∧ Φ.io j = none ∧ OwnS K F H p d ∧ ∃ hi : ∀ k, Φ.io k ≠ some p, R K (Mi.lend Φ j p o hi) F σ H (ρ.set j (.io d)) := by
  obtain ⟨p, es, nF, n0, ow⟩ := h.sl j _ e
  have hi : ∀ k, Φ.io k ≠ some p := fun k z => absurd n0 (h.io1 k p z).1
  have ij : Φ.io j = none := by
    cases z : Φ.io j with
    | none => rfl
    | some a =>
      obtain ⟨_, _, d', w, _⟩ := h.io1 j a z
      rw [e] at w
      cases w
  obtain ⟨o, eo⟩ : ∃ o, H p = some o := by
    cases z : H p with
    | none => exact absurd ow (fun w => by
        have := OwnS.ex w
        obtain ⟨o, e⟩ := this
        rw [z] at e
        cases e)
    | some o => exact ⟨o, rfl⟩
  refine ⟨p, o, es, eo, nF, n0, ij, ow, hi, by rw [List.length_set]; exact h.len, h.sub, h.sub0, fun b n z => ?_, fun b u q z => ?_, fun b q => ?_, fun i s q => ?_, fun i k a d1 d2 q1 q2 w1 w2 => ?_, fun k a q => ?_, fun i d' q => ?_⟩
  · by_cases y : b = p
    · subst y; exact nF
    · exact h.new b n (by have : (upd Φ.H0 p o) b ≠ none := z; rw [upd_ne y] at this; exact this)
  · have q : (upd Φ.H0 p o) b = some u := q
    have z : ∀ k, (if k = j then some p else Φ.io k) ≠ some b := z
    by_cases y : b = p
    · subst y; exact absurd rfl (by have := z j; rw [if_pos rfl] at this; exact this)
    · rw [upd_ne y] at q
      refine h.kept b u q fun k w => ?_
      by_cases ek : k = j
      · subst ek; rw [ij] at w; cases w
      · have := z k; rw [if_neg ek] at this; exact this w
  · show (upd Φ.H0 p o) b = none
    rw [upd_ne (by rintro rfl; rw [eo] at q; cases q)]
    exact h.dom b q
  · by_cases y : i = j
    · subst y
      rw [setE_same e] at q
      cases q
      trivial
    · rw [setE_ne y] at q
      have w := h.sl i s q
      cases s with
      | no => trivial
      | val d => exact w
      | own d1 =>
        obtain ⟨a, w1, w2, w3, w4⟩ := w
        refine ⟨a, w1, w2, ?_, w4⟩
        show (upd Φ.H0 p o) a = none
        rw [upd_ne (by rintro rfl; exact y (h.dis i j _ _ _ q e w1 es))]
        exact w3
      | io d => trivial
  · by_cases y : i = j
    · subst y; rw [setE_same e] at q1; cases q1
    · by_cases y2 : k = j
      · subst y2; rw [setE_same e] at q2; cases q2
      · rw [setE_ne y] at q1
        rw [setE_ne y2] at q2
        exact h.dis i k a d1 d2 q1 q2 w1 w2
  · have q : (if k = j then some p else Φ.io k) = some a := q
    by_cases ek : k = j
    · rw [if_pos ek] at q
      cases q
      subst ek
      exact ⟨by show (upd Φ.H0 p o) p ≠ none; rw [upd_same]; exact (fun z => by cases z), nF, d, setE_same e, es, ow⟩
    · rw [if_neg ek] at q
      obtain ⟨w1, w2, d', w3, w4, w5⟩ := h.io1 k a q
      exact ⟨by show (upd Φ.H0 p o) a ≠ none; rw [upd_ne (by rintro rfl; exact w1 n0)]; exact w1, w2, d', by rw [setE_ne ek]; exact w3, w4, w5⟩
  · show ∃ a, (if i = j then some p else Φ.io i) = some a
    by_cases y : i = j
    · exact ⟨p, if_pos y⟩
    · rw [setE_ne y] at q
      obtain ⟨a, w⟩ := h.io2 i d' q
      exact ⟨a, by rw [if_neg y]; exact w⟩
theorem R.back {Φ : Fm} {F H : Hp} {σ : L2.St} {ρ : Env} {j : Nat} {d : D} {p : Addr} {o : HO} {hi : ∀ k, Φ.io k ≠ some p} (n0 : Φ.H0 p = none) (ij : Φ.io j = none) (h : R K (Mi.lend Φ j p o hi) F σ H ρ) (e : ρ[j]? = some (.io d)) :
    R K Φ F σ H (ρ.set j (.own d)) := by
  obtain ⟨_, nF, d0, e0, es, ow⟩ := h.io1 j p (by show (if j = j then some p else Φ.io j) = some p; rw [if_pos rfl])
  rw [e] at e0
  cases e0
  have ne : ∀ b, (upd Φ.H0 p o) b = none → b ≠ p := fun b q y => by subst y; rw [upd_same] at q; cases q
  refine ⟨by rw [List.length_set]; exact h.len, h.sub, h.sub0, fun b n z => h.new b n ?_, fun b u q z => ?_, fun b q => ?_, fun i s q => ?_, fun i k a d1 d2 q1 q2 w1 w2 => ?_, fun k a q => ?_, fun i d' q => ?_⟩
  · show (upd Φ.H0 p o) b ≠ none
    rw [upd_ne (by rintro rfl; exact z n0)]
    exact z
  · have y : b ≠ p := by rintro rfl; rw [n0] at q; cases q
    refine h.kept b u (by show (upd Φ.H0 p o) b = some u; rw [upd_ne y]; exact q) fun k => ?_
    show (if k = j then some p else Φ.io k) ≠ some b
    by_cases ek : k = j
    · rw [if_pos ek]; exact fun w => y (Option.some.inj w).symm
    · rw [if_neg ek]; exact z k
  · have q1 : (upd Φ.H0 p o) b = none := h.dom b q
    rw [upd_ne (ne b q1)] at q1
    exact q1
  · by_cases y : i = j
    · subst y
      rw [setE_same e] at q
      cases q
      exact ⟨p, es, nF, n0, ow⟩
    · rw [setE_ne y] at q
      have w := h.sl i s q
      cases s with
      | no => trivial
      | val d => exact w
      | own d1 =>
        obtain ⟨a, w1, w2, w3, w4⟩ := w
        have w3 : (upd Φ.H0 p o) a = none := w3
        have := w3
        rw [upd_ne (ne a w3)] at this
        exact ⟨a, w1, w2, this, w4⟩
      | io d => trivial
  · have apart : ∀ i' d', i' ≠ j → ρ[i']? = some (.own d') → σ[i']? = some (some (.ref a)) → a ≠ p := fun i' d' y q w => by
      obtain ⟨a', w1, w2, w3, w4⟩ := h.sl i' _ q
      rw [w] at w1
      cases w1
      exact ne a w3
    by_cases y : i = j
    · by_cases y2 : k = j
      · rw [y, y2]
      · subst y
        rw [setE_ne y2] at q2
        rw [es] at w1
        cases w1
        exact absurd rfl (apart k d2 y2 q2 w2)
    · by_cases y2 : k = j
      · subst y2
        rw [setE_ne y] at q1
        rw [es] at w2
        cases w2
        exact absurd rfl (apart i d1 y q1 w1)
      · rw [setE_ne y] at q1
        rw [setE_ne y2] at q2
        exact h.dis i k a d1 d2 q1 q2 w1 w2
  · have ek : k ≠ j := by rintro rfl; rw [ij] at q; cases q
    obtain ⟨w1, w2, d', w3, w4, w5⟩ := h.io1 k a (by show (if k = j then some p else Φ.io k) = some a; rw [if_neg ek]; exact q)
    have ya : a ≠ p := fun y => hi k (by rw [← y]; exact q)
    have w1 : (upd Φ.H0 p o) a ≠ none := w1
    rw [upd_ne ya] at w1
    exact ⟨w1, w2, d', by rw [setE_ne ek]; exact w3, w4, w5⟩
  · by_cases y : i = j
    · subst y; rw [setE_same e] at q; cases q
    · rw [setE_ne y] at q
      obtain ⟨a, w⟩ := h.io2 i d' q
      have w : (if i = j then some p else Φ.io i) = some a := w
      rw [if_neg y] at w
      exact ⟨a, w⟩
open Classical in
/-- own again -/
noncomputable def thaw (j : Nat) (ds : List D) : Out → Out
  | .nx ρ => if ρ[j]? = some (.io (.list ds)) then .nx (ρ.set j (.own (.list ds))) else .stuck
  | .rt d ρ => if ρ[j]? = some (.io (.list ds)) then .rt d (ρ.set j (.own (.list ds))) else .stuck
  | _ => .stuck
noncomputable def mForO (j : Nat) (tg : MG) (b : MS) : MS := fun ρ => match ρ[j]? with
  | some (.own (.list ds)) => thaw j ds (mForL (guard j ds tg) b ds (ρ.set j (.io (.list ds))))
  | _ => .stuck
open Classical in
theorem thaw_nx {Φ : Fm} {F : Hp} {De : Ends} {W : WXm} {j : Nat} {ds : List D} {ρ : Env} (g : GoodS K Φ F De W (thaw j ds (.nx ρ))) : ρ[j]? = some (.io (.list ds)) ∧ GoodS K Φ F De W (.nx (ρ.set j (.own (.list ds)))) := by
  have g : GoodS K Φ F De W (if ρ[j]? = some (.io (.list ds)) then .nx (ρ.set j (.own (.list ds))) else .stuck) := g
  by_cases e : ρ[j]? = some (.io (.list ds))
  · rw [if_pos e] at g
    exact ⟨e, g⟩
  · rw [if_neg e] at g
    exact False.elim g
open Classical in
theorem thaw_rt {Φ : Fm} {F : Hp} {De : Ends} {W : WXm} {j : Nat} {ds : List D} {d : D} {ρ : Env} (g : GoodS K Φ F De W (thaw j ds (.rt d ρ))) : ρ[j]? = some (.io (.list ds)) ∧ GoodS K Φ F De W (.rt d (ρ.set j (.own (.list ds)))) := by
  have g : GoodS K Φ F De W (if ρ[j]? = some (.io (.list ds)) then .rt d (ρ.set j (.own (.list ds))) else .stuck) := g
  by_cases e : ρ[j]? = some (.io (.list ds))
  · rw [if_pos e] at g
    exact ⟨e, g⟩
  · rw [if_neg e] at g
    exact False.elim g
open Classical in
theorem shs_forO {g : L2.TG} {tg : MG} {j : Nat} {ts : List Nat} (hg : ShG K g tg ts) (hb : ShS K mg E s1 m1) : ShS K mg E (tFor (iList K (tVar j)) g s1) (mForO j tg m1) := by
  intro Φ F σ H ρ De W r x gg
  unfold mForO at gg
  split at gg
  rotate_left
  · exact gg.elim
  rename_i ds ej
  obtain ⟨p, o, ea, eo, nF, n0, ij, ow, hi, r0⟩ := r.lend ej
  obtain ⟨vs0, h01, h02⟩ := ow
  have at_ : ∀ {F' : Hp} {σ' : L2.St} {H' : Hp} {ρ' : Env}, R K (Mi.lend Φ j p o hi) F' σ' H' ρ' → mu ρ' j = some (.list ds) → ∃ us, H' p = some (.lst us) ∧ RpA K F' us ds := fun {F' σ' H' ρ'} r' e => by
    obtain ⟨_, _, d', w3, w4, w5⟩ := r'.io1 j p (by show (if j = j then some p else Φ.io j) = some p; rw [if_pos rfl])
    rw [mu_io' w3] at e
    cases e
    exact w5
  refine ⟨_, ea, p, rfl, ⟨vs0, SqL.of h01⟩, ?_⟩
  refine ⟨fun i n σ H => ∃ F' ρ', R K (Mi.lend Φ j p o hi) F' σ H ρ' ∧ Same F F' ∧ n = ds.length - i ∧ GoodS K Φ F' De W (thaw j ds (mForL (guard j ds tg) m1 (ds.drop i) ρ')), ⟨_, F, _, r0, Same.refl _, rfl, gg⟩, ?_⟩
  rintro i n σ H ⟨F', ρ', r', s', hn, g'⟩
  cases e : ds[i]? with
  | none =>
    rw [List.drop_eq_nil_of_le (List.getElem?_eq_none_iff.mp e)] at g'
    obtain ⟨c, g2⟩ := thaw_nx g'
    obtain ⟨us, u1, u2⟩ := at_ r' (mu_io' c)
    exact .inl ⟨⟨us, SqL.of u1, by rw [u2.length]; exact List.getElem?_eq_none_iff.mp e⟩, g2 σ F' H (r'.back n0 ij c) (Same.refl _)⟩
  | some d =>
    have hlt : i < ds.length := (List.getElem?_eq_some_iff.mp e).1
    rw [drop_get e] at g'
    unfold mForL at g'
    by_cases c : mu ρ' j = some (.list ds)
    rotate_left
    · rw [show guard j ds tg d ρ' = none from if_neg c] at g'
      exact False.elim g'
    rw [show guard j ds tg d ρ' = tg d ρ' from if_pos c] at g'
    obtain ⟨us, u1, u2⟩ := at_ r' c
    obtain ⟨y0, e0, ry0⟩ := u2.get' e
    cases z : tg d ρ' with
    | none => rw [z] at g'; exact False.elim g'
    | some ρ2 =>
      rw [z] at g'
      refine .inr ⟨⟨us, y0, SqL.of u1, e0⟩, fun σ' H' => ∃ F2 ρ3, R K (Mi.lend Φ j p o hi) F2 σ' H' ρ3 ∧ Same F F2 ∧ GoodS K Φ F2 De W (thaw j ds (mForL (guard j ds tg) m1 (ds.drop (i + 1)) ρ3)), fun σ' H' ⟨F2, ρ3, q1, q2, q3⟩ => ⟨_, by subst hn; omega, F2, ρ3, q1, q2, rfl, q3⟩, fun v H' y => ?_⟩
      obtain ⟨rfl, yv⟩ := y
      have ev := yv us (SqL.of u1)
      rw [e0] at ev
      cases ev
      refine hg _ F' σ _ ρ' ρ2 _ d _ r' ry0 z fun σ2 r3 _ => ?_
      have g2 : GoodS K Φ F' De W (thaw j ds (match m1 ρ2 with | .nx ρ2 => mForL (guard j ds tg) m1 (ds.drop (i + 1)) ρ2 | .ct ρ2 => mForL (guard j ds tg) m1 (ds.drop (i + 1)) ρ2 | .bk ρ2 => .nx ρ2 | o => o)) := g'
      refine hb _ F' σ2 _ ρ2 _ (fun _ _ _ _ => False) r3 xw_false ?_
      cases eb : m1 ρ2 with
      | nx ρ4 => rw [eb] at g2; exact fun σ4 F4 H4 r4 s4 => ⟨F4, ρ4, r4, s'.trans s4, g2.weak s4⟩
      | ct ρ4 => rw [eb] at g2; exact fun σ4 F4 H4 r4 s4 => ⟨F4, ρ4, r4, s'.trans s4, g2.weak s4⟩
      | bk ρ4 =>
        rw [eb] at g2
        obtain ⟨c4, g4⟩ := thaw_nx g2
        exact fun σ4 F4 H4 r4 s4 => g4 σ4 F4 H4 (r4.back n0 ij c4) s4
      | rt d4 ρ4 =>
        rw [eb] at g2
        obtain ⟨c4, g4⟩ := thaw_rt g2
        exact fun σ4 v4 F4 H4 r4 s4 rv4 => g4 σ4 v4 F4 H4 (r4.back n0 ij c4) s4 rv4
      | exc c4 d4 ρ4 => rw [eb] at g2; exact False.elim g2
      | stuck => rw [eb] at g2; exact False.elim g2
end
section
variable {ρ : Env} {Q : D → Env → Prop} {N B C : Env → Prop} {Rt : D → Env → Prop} {Xp : Str → D → Env → Prop} {m mk : ME} {j : Nat}
theorem w_neV (q : Sat (mPk j m gNeD ρ) Q) : Sat (mNeV j m ρ) Q := q
theorem v_gne {ds : List D} {e : D} {Q : D → Prop} (q : VAL (fNeD (.list ds) e) Q) : VAL (gNeD (.list ds) e) Q := q
theorem w_isiV {n : String} {ds : List D} (l : LK ρ j (.own (.list ds))) (q : ISI n (.list ds) fun b => Q (.bool b) ρ) : Sat (mIsiV n j ρ) Q := by
  obtain ⟨b, e, q⟩ := q
  exact ⟨_, ρ, by unfold mIsiV; rw [mu_own' l]; dsimp only; rw [e], q⟩
def DIK (neg : Bool) (a d : D) (N : D → Prop) : Prop := ∃ kds k, d = .dict kds ∧ keyD a = some k ∧ N (.bool ((valD kds k).isSome ^^ neg))
theorem w_dinV {neg : Bool} (q : MU (mu ρ j) fun _ => Sat (mk ρ) fun a ρ1 => MU (mu ρ1 j) fun d => DIK neg a d fun z => Q z ρ1) : Sat (mDInV neg mk j ρ) Q := by
  obtain ⟨d0, e0, a, ρ1, e1, d, e2, kds, k, rfl, ek, q⟩ := q
  exact ⟨_, ρ1, by unfold mDInV; rw [e0]; dsimp only; rw [e1]; dsimp only [Res.bind]; rw [e2]; dsimp only; rw [ek], q⟩
theorem dik_ {neg : Bool} {kds : List (D × D)} {i : Int} {N : D → Prop} (q : N (.bool ((valD kds (.inl i)).isSome ^^ neg))) : DIK neg (.int i) (.dict kds) N := ⟨kds, .inl i, rfl, rfl, q⟩
theorem w_lstV {ds : List D} (l : LK ρ j (.own (.list ds))) (q : Q (.list ds) ρ) : Sat (mLstV j ρ) Q := ⟨_, ρ, by unfold mLstV; rw [mu_own' l], q⟩
open Classical in
theorem w_forO {ds : List D} {tg : MG} {b : MS} (l : LK ρ j (.own (.list ds))) (q : FORW (guard j ds tg) b ds (ρ.set j (.io (.list ds))) (fun ρ' => ρ'[j]? = some (.io (.list ds)) ∧ N (ρ'.set j (.own (.list ds)))) (fun d ρ' => ρ'[j]? = some (.io (.list ds)) ∧ Rt d (ρ'.set j (.own (.list ds)))) (fun _ _ _ => False)) : SatS (mForO j tg b ρ) N Rt B C Xp := by
  have q := q (fun _ => False) (fun _ => False)
  unfold mForO
  rw [show ρ[j]? = some (.own (.list ds)) from l]
  dsimp only
  cases e : mForL (guard j ds tg) b ds (ρ.set j (.io (.list ds))) with
  | nx ρ' =>
    rw [e] at q
    obtain ⟨q1, q2⟩ := q
    show SatS (if ρ'[j]? = some (.io (.list ds)) then Out.nx (ρ'.set j (.own (.list ds))) else .stuck) N Rt B C Xp
    rw [if_pos q1]
    exact q2
  | rt d ρ' =>
    rw [e] at q
    obtain ⟨q1, q2⟩ := q
    show SatS (if ρ'[j]? = some (.io (.list ds)) then Out.rt d (ρ'.set j (.own (.list ds))) else .stuck) N Rt B C Xp
    rw [if_pos q1]
    exact q2
  | bk ρ' => rw [e] at q; exact False.elim q
  | ct ρ' => rw [e] at q; exact False.elim q
  | exc c d ρ' => rw [e] at q; exact False.elim q
  | stuck => rw [e] at q; exact False.elim q
end
end Mi
namespace Mi
open PySem PySem.Spec PyProof.Rows L2
theorem w_forOs {ρ : Env} {N B C : Env → Prop} {Rt : D → Env → Prop} {Xp : Str → D → Env → Prop} {j : Nat} {ds : List D} {tg : MG} {b : MS} (l : LK ρ j (.own (.list ds))) (q : SETS (ρ.set j (.io (.list ds))) fun ρ0 => FORW (guard j ds tg) b ds ρ0 (fun ρ' => LK ρ' j (.io (.list ds)) ∧ SETS (ρ'.set j (.own (.list ds))) N) (fun d ρ' => LK ρ' j (.io (.list ds)) ∧ SETS (ρ'.set j (.own (.list ds))) (Rt d)) (fun _ _ _ => False)) : SatS (mForO j tg b ρ) N Rt B C Xp := w_forO l q
end Mi

set_option Elab.async false
set_option linter.all false
set_option maxRecDepth 100000
/-! a dict of numbers by texts that the module holds: in, [], .get; text.count, text.zfill -/
namespace Mi
open PySem PySem.Spec PyProof.Rows L2
inductive EntI (w : World) : List DictEntry → List (Str × Int) → Prop
  | nil : EntI w [] []
  | cons {k : Str} {v : Int} {t t' : Tok} {es : List DictEntry} {kvs : List (Str × Int)} (r : EntI w es kvs) : EntI w (⟨PyData.keyHash w.params k, .str k t, .int v t'⟩ :: es) ((k, v) :: kvs)
def valI (kvs : List (Str × Int)) (k : Str) : Option Int := (kvs.find? fun p => decide (p.1 = k)).map (·.2)
theorem EntI.find {w : World} {es : List DictEntry} {kvs : List (Str × Int)} (h : EntI w es kvs) (k : Str) : (valI kvs k = none ∧ (es.find? fun e => keyIs (.inr k) e.key).map (·.val) = none) ∨ ∃ x t, valI kvs k = some x ∧ (es.find? fun e => keyIs (.inr k) e.key).map (·.val) = some (.int x t) := by
  induction h with
  | nil => exact .inl ⟨rfl, rfl⟩
  | @cons k' v t t' es kvs r ih =>
    unfold valI at ih ⊢
    rw [List.find?_cons, List.find?_cons]
    by_cases e : k' = k
    · subst e
      rw [show keyIs (.inr k') (Value.str k' t) = true from keyIs_str k' t, decide_eq_true rfl]
      exact .inr ⟨v, t', rfl, rfl⟩
    · have : keyIs (.inr k) (Value.str k' t) = false := by
        cases z : keyIs (.inr k) (Value.str k' t) with
        | false => rfl
        | true =>
          rcases keyIs_shape z with ⟨i, t, h1, h2⟩ | ⟨x, t, h1, h2⟩
          · cases h2
          · cases h1
            injection h2 with h2
            exact (e h2).elim
      rw [this, decide_eq_false e]
      exact ih
theorem EntI.keys {P : Program} {w : World} {es : List DictEntry} {kvs : List (Str × Int)} (h : EntI w es kvs) : ∀ e ∈ es, ∃ k, (mixKind P w).is k e.key = true ∧ e.hash = (mixKind P w).hash k := by
  induction h with
  | nil => exact fun e he => nomatch he
  | @cons k' v t t' es kvs r ih =>
    intro e he
    rcases List.mem_cons.mp he with rfl | he
    · exact ⟨.inr k', keyIs_str k' t, rfl⟩
    · exact ih e he
def KTabI (K : PySem.W.Frag) (w : World) (a : Addr) (kvs : List (Str × Int)) : Prop := (a == sysModules) = false ∧ ∃ es n, K.lookup a = some ⟨.type "dict", none, .dict es n, #[]⟩ ∧ EntI w es.toList kvs
theorem ktabI_of {K : PySem.W.Frag} {w : World} {a : Addr} {es : Array DictEntry} {n : Nat} {kvs : List (Str × Int)} (h : K.lookup a = some ⟨.type "dict", none, .dict es n, #[]⟩) (hs : (a == sysModules) = false) (e : EntI w es.toList kvs) : KTabI K w a kvs := ⟨hs, es, n, h, e⟩
theorem KTabI.map {X : Cx} {pins : List (Addr × Obj)} {σ : L2.St} {H : Hp} {s : Shared} {a : Addr} {kvs : List (Str × Int)} (kt : KTabI X.K X.w a kvs) (I : L2.Inv X pins σ H s) : ∃ f, s.heap.MapOf (mixKind X.prog X.w) a f ∧ ∀ k, (valI kvs k = none ∧ f (.inr k) = none) ∨ ∃ x t, valI kvs k = some x ∧ f (.inr k) = some (.int x t) := by
  obtain ⟨hsm, es, n, hk, en⟩ := kt
  have o := I.kIn a _ hk
  refine ⟨fun j => findBy (mixKind X.prog X.w).is es j, ⟨_, es, n, o, ⟨rfl, rfl, rfl⟩, rfl, fun e he => en.keys e (by simpa using he), fun _ => rfl⟩, fun k => ?_⟩
  have ef : findBy (mixKind X.prog X.w).is es (.inr k) = (es.toList.find? fun e => keyIs (.inr k) e.key).map (·.val) := by
    unfold findBy
    rw [← Array.find?_toList]
    rfl
  dsimp only
  rw [ef]
  exact en.find k
def tKGI (kvs : List (Str × Int)) (ty tx : TE) : TE := fun σ H Q => ty σ H fun y H1 => tx σ H1 fun z H2 => ∃ k, y = .str k ∧ Q (((valI kvs k).map V.int).getD z) H2
def tKIn (kvs : List (Str × Int)) (ty : TE) : TE := fun σ H Q => ty σ H fun y H1 => ∃ k, y = .str k ∧ Q (.bl (valI kvs k).isSome) H1
def tKNin (kvs : List (Str × Int)) (ty : TE) : TE := fun σ H Q => ty σ H fun y H1 => ∃ k, y = .str k ∧ Q (.bl (!(valI kvs k).isSome)) H1
def tKIx (kvs : List (Str × Int)) (ty : TE) : TE := fun σ H Q => ty σ H fun y H1 => ∃ k v, y = .str k ∧ valI kvs k = some v ∧ Q (.int v) H1
section
variable {X : Cx} {x : Str} {e f : Expr} {apos cpos pos : Pos} {ty tx : TE} {a : Addr} {kvs : List (Str × Int)}
theorem pe_kgetI (hg : Gl X x) (hm : X.mg x = some (.ref a)) (kt : KTabI X.K X.w a kvs) (he : PE X e ty) (hf : PE X f tx) (m : M2 X (.Name x pos) "get" apos e f cpos) (hd : (x == ("__debug__" : Str)) = false := by decide) :
    PE X (.Call (.Attribute (.Name x pos) "get" apos) [e, f] [] cpos) (tKGI kvs ty tx) := by
  refine ⟨fun pins s σ H Q I h => ?_⟩
  refine wpAny_Call_method m.base m.few m.line PySem.F.plainAttrs_dict PySem.F.slot_dict_get PySem.F.type_dict_get (ld_glob I hg hm ?_ hd)
  obtain ⟨_, es, n, hk, _⟩ := id kt
  have o := I.kIn a _ hk
  refine ⟨⟨_, o, rfl⟩, fun b q => by cases q; exact ⟨_, o, rfl⟩, ?_⟩
  rw [m.trees]
  refine Calls.callWith_builtin rfl (Calls.evalArgs_plain (Calls.spliced_cons (thn (he.run pins _ σ H _ I h) fun iv s2 ⟨y, H2, I2, ry, q2⟩ =>
    Calls.spliced_cons (thn (hf.run pins s2 σ H2 _ I2 q2) fun fv s3 ⟨z, H3, I3, rz, k, ey, q3⟩ => Calls.spliced_nil ?_))))
  subst ey
  obtain ⟨g, mo, hv⟩ := kt.map I3
  refine call_meetsIn PySem.F.slot_dict_get mo.typeIs PySem.F.entry_dict_get (PySem.F.args_dict_get_3 _ _ _) (meets_dict_get_default (k := .inr k) (mixKind X.prog X.w) a (kV_is (k := .inr k) ry) kt.1 fv) ⟨_, mo, ?_⟩
  refine ⟨((valI kvs k).map V.int).getD z, H3, I3.tok _, ?_, q3⟩
  rcases hv k with ⟨h1, h2⟩ | ⟨x, t, h1, h2⟩
  · rw [h1, h2]; exact rz
  · rw [h1, h2]; exact ⟨t, rfl⟩
theorem pc_kin (hg : Gl X x) (hm : X.mg x = some (.ref a)) (kt : KTabI X.K X.w a kvs) (he : PE X e ty) (hd : (x == ("__debug__" : Str)) = false := by decide) : PC X .In e (.Name x pos) (tKIn kvs ty) := by
  refine ⟨fun pins s σ H Q I h => ?_⟩
  refine thn (he.run pins s σ H _ I h) fun iv s1 ⟨y, H1, I1, ry, k, ey, q1⟩ => ld_glob I1 hg hm ?_ hd
  subst ey
  obtain ⟨g, mo, hv⟩ := kt.map I1
  refine wpAny_in_of (k := .inr k) (kV_is (k := .inr k) ry) kt.1 mo ?_
  have e2 : (g (.inr k)).isSome = (valI kvs k).isSome := by
    rcases hv k with ⟨h1, h2⟩ | ⟨x, t, h1, h2⟩ <;> rw [h1, h2] <;> rfl
  rw [e2]
  exact ⟨.bl (valI kvs k).isSome, H1, I1.tok _, rfl, q1⟩
theorem pc_knin (hg : Gl X x) (hm : X.mg x = some (.ref a)) (kt : KTabI X.K X.w a kvs) (he : PE X e ty) (hd : (x == ("__debug__" : Str)) = false := by decide) : PC X .NotIn e (.Name x pos) (tKNin kvs ty) := by
  refine ⟨fun pins s σ H Q I h => ?_⟩
  refine thn (he.run pins s σ H _ I h) fun iv s1 ⟨y, H1, I1, ry, k, ey, q1⟩ => ld_glob I1 hg hm ?_ hd
  subst ey
  obtain ⟨g, mo, hv⟩ := kt.map I1
  refine wpAny_notIn_of (k := .inr k) (kV_is (k := .inr k) ry) kt.1 mo ?_
  have e2 : (g (.inr k)).isSome = (valI kvs k).isSome := by
    rcases hv k with ⟨h1, h2⟩ | ⟨x, t, h1, h2⟩ <;> rw [h1, h2] <;> rfl
  rw [e2]
  exact ⟨.bl (!(valI kvs k).isSome), H1, I1.tok _, rfl, q1⟩
theorem pe_kix (hg : Gl X x) (hm : X.mg x = some (.ref a)) (kt : KTabI X.K X.w a kvs) (he : PE X e ty) (hs : NoSl e) (hd : (x == ("__debug__" : Str)) = false := by decide) : PE X (.Subscript (.Name x pos) e cpos) (tKIx kvs ty) := by
  refine ⟨fun pins s σ H Q I h => ?_⟩
  refine subD_of PySem.F.slot_dict_getitem.lookup hs (ld_glob I hg hm (thn (he.run pins _ σ H _ I h) fun iv s2 ⟨y, H2, I2, ry, k, v, ey, hk, q2⟩ => ?_) hd)
  subst ey
  obtain ⟨g, mo, hv⟩ := kt.map I2
  rcases hv k with ⟨h1, h2⟩ | ⟨x, t, h1, h2⟩
  · rw [hk] at h1; cases h1
  · rw [hk] at h1
    cases h1
    exact ⟨mo.typeIs, wpAny_getItem_of (k := .inr k) (kV_is (k := .inr k) ry) mo h2 ⟨.int v, H2, I2.tok _, ⟨t, rfl⟩, q2⟩⟩
end
section
variable {K : PySem.W.Frag} {mg : Str → Option Value} {E : L2.St → XK} {ty tx : TE} {m mk mx : ME} {ρ : Env} {Q : D → Env → Prop}
def mKGI (kvs : List (Str × Int)) (mk mx : ME) : ME := fun ρ => (mk ρ).bind fun q => (mx q.2).bind fun r => match q.1 with
  | .str k => .ok (((valI kvs k).map PyData.int).getD r.1, r.2)
  | _ => .stuck
theorem sh_kgI {kvs : List (Str × Int)} (hk : ShE K mg E ty mk) (hx : ShE K mg E tx mx) : ShE K mg E (tKGI kvs ty tx) (mKGI kvs mk mx) := by
  intro Φ F σ H ρ Q W rr x g
  have g2 := Good.bind (r := mk ρ) g
  refine hk Φ F σ H ρ _ W rr x (g2.mono (fun q gq v2 F2 H2 r2 s2 rv2 => ?_) fun _ _ _ w => w)
  have g3 := gq.bind
  refine hx Φ F2 σ H2 q.2 _ W r2 x (g3.mono (fun r gr v3 F3 H3 r3 s3 rv3 => ?_) fun _ _ _ w => up.weak s2 w)
  obtain ⟨q1, q2⟩ := q
  cases rv2 <;> try (exact False.elim gr)
  rename_i k
  refine ⟨k, rfl, ?_⟩
  refine gr _ F3 H3 r3 (s2.trans s3) ?_
  show Rp K F3 (((valI kvs k).map V.int).getD v3) (((valI kvs k).map PyData.int).getD r.1)
  cases valI kvs k with
  | none => exact rv3
  | some z => exact .int _
def fKIn (neg : Bool) (kvs : List (Str × Int)) : D → Option D
  | .str k => some (.bool (if neg = true then !(valI kvs k).isSome else (valI kvs k).isSome))
  | _ => none
def fKIx (kvs : List (Str × Int)) : D → Option D
  | .str k => (valI kvs k).map .int
  | _ => none
def mK1 (f : D → Option D) (m : ME) : ME := fun ρ => (m ρ).bind fun p => ret (f p.1) p.2
theorem sh_kin {kvs : List (Str × Int)} (h : ShE K mg E ty m) : ShE K mg E (tKIn kvs ty) (mK1 (fKIn false kvs) m) := by
  intro Φ F σ H ρ Q W rr x g
  refine h Φ F σ H ρ _ W rr x ((Good.bind (r := m ρ) g).mono (fun p gp v F1 H1 r1 s1 rv => ?_) fun _ _ _ w => w)
  obtain ⟨p1, p2⟩ := p
  cases rv <;> try (exact False.elim gp)
  exact ⟨_, rfl, gp _ F1 H1 r1 s1 (.bl _)⟩
theorem sh_knin {kvs : List (Str × Int)} (h : ShE K mg E ty m) : ShE K mg E (tKNin kvs ty) (mK1 (fKIn true kvs) m) := by
  intro Φ F σ H ρ Q W rr x g
  refine h Φ F σ H ρ _ W rr x ((Good.bind (r := m ρ) g).mono (fun p gp v F1 H1 r1 s1 rv => ?_) fun _ _ _ w => w)
  obtain ⟨p1, p2⟩ := p
  cases rv <;> try (exact False.elim gp)
  exact ⟨_, rfl, gp _ F1 H1 r1 s1 (.bl _)⟩
theorem sh_kix {kvs : List (Str × Int)} (h : ShE K mg E ty m) : ShE K mg E (tKIx kvs ty) (mK1 (fKIx kvs) m) := by
  intro Φ F σ H ρ Q W rr x g
  refine h Φ F σ H ρ _ W rr x ((Good.bind (r := m ρ) g).mono (fun p gp v F1 H1 r1 s1 rv => ?_) fun _ _ _ w => w)
  obtain ⟨p1, p2⟩ := p
  cases rv <;> try (exact False.elim gp)
  rename_i k
  have gp : Good (ret ((valI kvs k).map .int) p2) _ _ := gp
  cases z : valI kvs k with
  | none => rw [z] at gp; exact False.elim gp
  | some v => rw [z] at gp; exact ⟨_, v, rfl, z, gp _ F1 H1 r1 s1 (.int _)⟩
theorem w_k1 {f : D → Option D} (q : Sat (m ρ) fun a ρ1 => VAL (f a) fun z => Q z ρ1) : Sat (mK1 f m ρ) Q := by
  obtain ⟨a, ρ1, e1, z, e2, q⟩ := q
  exact ⟨z, ρ1, by unfold mK1; rw [e1]; show ret (f a) ρ1 = _; rw [e2]; rfl, q⟩
theorem v_kin {neg : Bool} {kvs : List (Str × Int)} {k : Str} {Q : D → Prop} (q : Q (.bool (if neg = true then !(valI kvs k).isSome else (valI kvs k).isSome))) : VAL (fKIn neg kvs (.str k)) Q := ⟨_, rfl, q⟩
theorem v_kix {kvs : List (Str × Int)} {k : Str} {v : Int} {Q : D → Prop} (h : valI kvs k = some v) (q : Q (.int v)) : VAL (fKIx kvs (.str k)) Q := ⟨_, by show (valI kvs k).map _ = _; rw [h]; rfl, q⟩
def KGI (kvs : List (Str × Int)) (d x : D) (N : D → Prop) : Prop := ∃ k, d = .str k ∧ N (((valI kvs k).map PyData.int).getD x)
theorem kgi_ {kvs : List (Str × Int)} {k : Str} {x : D} {N : D → Prop} (q : N (((valI kvs k).map PyData.int).getD x)) : KGI kvs (.str k) x N := ⟨k, rfl, q⟩
theorem w_kgI {kvs : List (Str × Int)} (q : Sat (mk ρ) fun b ρ2 => Sat (mx ρ2) fun c ρ3 => KGI kvs b c fun d => Q d ρ3) : Sat (mKGI kvs mk mx ρ) Q := by
  obtain ⟨b, ρ2, e2, c, ρ3, e3, k, rfl, q⟩ := q
  exact ⟨_, ρ3, by unfold mKGI; rw [e2]; show (mx ρ2).bind _ = _; rw [e3]; rfl, q⟩
/-! count, zfill -/
def fCount : D → D → Option D
  | .str a, .str b => some (.int (Txt.count a b))
  | _, _ => none
theorem m_count : M1S K (fun x xs H Q => ∃ a b, x = .str a ∧ xs = [.str b] ∧ Q (.int (Txt.count a b)) H) fCount := fun F H x y dx dy d Q s rx ry e q => by
  cases rx <;> try (cases e; done)
  cases ry <;> try (cases e; done)
  cases e
  exact ⟨_, _, rfl, rfl, q _ (.int _)⟩
def fZfill : D → D → Option D
  | .str a, .int i => if PadOk i = true then some (.str (Txt.zfill a i)) else none
  | _, _ => none
theorem m_zfill : M1S K (fun x xs H Q => ∃ (a : Str) (i : Int), x = .str a ∧ xs = [.int i] ∧ PadOk i = true ∧ Q (.str (Txt.zfill a i)) H) fZfill := fun F H x y dx dy d Q s rx ry e q => by
  cases rx <;> try (cases e; done)
  cases ry <;> try (cases e; done)
  rename_i a i
  have e : (if PadOk i = true then some (PyData.str (Txt.zfill a i)) else none) = some d := e
  by_cases h : PadOk i = true
  · rw [if_pos h] at e
    cases e
    exact ⟨_, _, rfl, rfl, h, q _ (.str _)⟩
  · rw [if_neg h] at e
    cases e
theorem v_count {a b : Str} {Q : D → Prop} (q : Q (.int (Txt.count a b))) : VAL (fCount (.str a) (.str b)) Q := ⟨_, rfl, q⟩
theorem v_zfill {a : Str} {i : Int} {Q : D → Prop} (h : PadOk i = true) (q : Q (.str (Txt.zfill a i))) : VAL (fZfill (.str a) (.int i)) Q := ⟨_, if_pos h, q⟩
end
end Mi

set_option Elab.async false
set_option linter.all false
set_option maxRecDepth 100000
namespace K33
open PySem PySem.Spec PyProof.Rows L2 Mi



def m__law_pattern : MS :=
  (mSeq (mSetO 1 (mOp fCatL (mLst [(mC (.str "Y")), (mC (.str "M")), (mC (.str "D"))]) (mCallI (runI 2 m__law_pick) 0 [(mLst [(mLst []), (mLst [(mC (.str "H")), (mC (.str "N"))]), (mLst [(mC (.str "N"))]), (mLst [(mC (.str "H"))])])])))
  (mSeq (mSet 2 (mC (.str "")))
  (mSeq (mFor (itR1 [(mLenV 1)]) (gN 3) (mSeq (mSet 2 (mOp fAddS (mVar 2) (mPopAt 1 (mCallI (runI 4 m__law_draw) 0 [(mLenV 1)]))))
  (mSet 2 (mOp fAddS (mVar 2) (mCallI (runI 2 m__law_pick) 0 [(mLst [(mC (.str "")), (mC (.str "-")), (mC (.str "/")), (mC (.str " ")), (mC (.str ". ")), (mC (.str "y")), (mC (.str ":")), (mC (.str "of"))])])))))
  (mSeq (mIfS (mB (mOp fEq (mCallI (runI 4 m__law_draw) 0 [(mC (.int (3)))]) (mC (.int (0))))) (mSeq (mSet 2 (mOp fAddS (mVar 2) (mCallI (runI 2 m__law_pick) 0 [(mLst [(mC (.str "Y")), (mC (.str "M")), (mC (.str "H")), (mC (.str "Z")), (mC (.str "7")), (mOp fMulS (mC (.str "x")) (mC (.int (41)))), (mC (.str "")), (mC (.str "?"))])])))
  (mSet 2 (mSl fSlS (mVar 2) (mPart (mCallI (runI 4 m__law_draw) 0 [(mC (.int (2)))])) mNoPart))) mNext)
  (mRet (mVar 2))))))
def m__law_is_pattern : MS :=
  (mSeq (mIfS (mOrT (mB (mOp fGt (mCB cbLenS [(mVar 0)]) (mC (.int (40))))) (mB (mCB cbAny [(mLc (itS (mVar 0)) (gN 2) mYes (mOp fInS (mVar 2) (mC (.str "0123456789ABCEFGIJKLOPQRSTUVWXZ"))) [2])]))) (mRet (mC (.bool false))) mNext)
  (mSeq (mSet 1 (mLc (itS (mC (.str "YMDHN"))) (gN 2) mYes (mM1 fCount (mVar 0) (mVar 2)) [2]))
  (mRet (mAndV (mOp fEqD (mSl fSlL (mVar 1) mNoPart (mPart (mC (.int (3))))) (mLst [(mC (.int (1))), (mC (.int (1))), (mC (.int (1)))])) (mOp fLe (mCB cbMax [(mVar 1)]) (mC (.int (1))))))))
def m_write : MS :=
  (mSeq (mAsg (gT 2 (gConss (gN 3) (gConss (gN 4) gNils))) (mCB cbDivmod [(mVar 2), (mC (.int (60)))]))
  (mSeq (mSet 5 (mDict [(.inr "Y", (mOp fIxT (mVar 1) (mC (.int (0))))), (.inr "M", (mOp fIxT (mVar 1) (mC (.int (1))))), (.inr "D", (mOp fIxT (mVar 1) (mC (.int (2))))), (.inr "H", (mVar 3)), (.inr "N", (mVar 4))]))
  (mSeq (mSetO 6 (mLst []))
  (mSeq (mFor (itS (mVar 0)) (gN 7) (mIfS (mB (mK1 (fKIn false [("Y", (4)), ("M", (2)), ("D", (2)), ("H", (2)), ("N", (2))]) (mVar 7))) (mDrop (mApp 6 (mM1 fZfill (mCB cbStrS [(mGet (mVar 5) (mVar 7))]) (mK1 (fKIx [("Y", (4)), ("M", (2)), ("D", (2)), ("H", (2)), ("N", (2))]) (mVar 7))))) (mDrop (mApp 6 (mVar 7)))))
  (mRet (mM1 fJoin (mC (.str "")) (mVar 6)))))))

def m__law_written : MS :=
  (mSeq (mSet 3 (mDict [(.inr "Y", (mOp fIxT (mVar 1) (mC (.int (0))))), (.inr "M", (mOp fIxT (mVar 1) (mC (.int (1))))), (.inr "D", (mOp fIxT (mVar 1) (mC (.int (2))))), (.inr "H", (mOp fDiv (mVar 2) (mC (.int (60))))), (.inr "N", (mOp fMod (mCB cbInt [(mVar 2)]) (mC (.int (60)))))]))
  (mSeq (mSet 4 (mC (.str "")))
  (mSeq (mFor (itS (mVar 0)) (gN 5) (mIfS (mB (mOp (fDIn false) (mVar 5) (mVar 3))) (mSeq (mSet 6 (mCB cbStrS [(mGet (mVar 3) (mVar 5))]))
  (mSet 4 (mOp fAddS (mOp fAddS (mVar 4) (mOp fMulS (mC (.str "0")) (mOp fSub (mIf (mB (mOp fEq (mVar 5) (mC (.str "Y")))) (mC (.int (4))) (mC (.int (2)))) (mCB cbLenS [(mVar 6)])))) (mVar 6)))) (mSet 4 (mOp fAddS (mVar 4) (mVar 5)))))
  (mRet (mVar 4)))))
def m__is_leap : MS :=
  (mSeq (mIfS (mAndT (mB (mOp fEq (mVar 0) (mC (.str "gregorian")))) (mB (mOp fEq (mOp fMod (mVar 1) (mC (.int (100)))) (mC (.int (0)))))) (mRet (mOp fEq (mOp fMod (mVar 1) (mC (.int (400)))) (mC (.int (0))))) mNext)
  (mRet (mOp fEq (mOp fMod (mVar 1) (mC (.int (4)))) (mC (.int (0))))))
def m_months_of : MS :=
  (mSeq (mIfS (mB (mIsi "tuple" (mVar 0))) (mSeq (mSet 2 (mOp fIxT (mVar 0) (mC (.int (1)))))
  (mRet (mOp fIxT (mVar 2) (mOp fMod (mOp fSub (mVar 1) (mC (.int (1)))) (mCB cbLen [(mVar 2)]))))) mNext)
  (mSeq (mIfS (mB (mCall (runP 2 m__is_leap) [(mVar 0), (mVar 1)])) (mRet (mC (.tuple [.int (31), .int (29), .int (31), .int (30), .int (31), .int (30), .int (31), .int (31), .int (30), .int (31), .int (30), .int (31)]))) mNext)
  (mRet (mC (.tuple [.int (31), .int (28), .int (31), .int (30), .int (31), .int (30), .int (31), .int (31), .int (30), .int (31), .int (30), .int (31)])))))
def m_date_fault : MS :=
  (mSeq (mAsg (gT 3 (gConss (gN 2) (gConss (gN 3) (gConss (gN 4) gNils)))) (mVar 1))
  (mSeq (mSet 5 (mCall (runP 3 m_months_of) [(mVar 0), (mVar 2)]))
  (mSeq (mIfS (mNotT (mB (mChain fLe fLe (mC (.int (1))) (mVar 3) (mCB cbLen [(mVar 5)])))) (mRet (mC (.str "month"))) mNext)
  (mSeq (mIfS (mNotT (mB (mChain fLe fLe (mC (.int (1))) (mVar 4) (mOp fIxT (mVar 5) (mOp fSub (mVar 3) (mC (.int (1)))))))) (mRet (mC (.str "day"))) mNext)
  (mRet (mC (.str "")))))))
def m__length_of : MS :=
  (mRet (mCB cbSum [(mLc (itT (mVar 0)) (gN 1) mYes (mCB cbSumT [(mVar 1)]) [1])]))
def m_year_start : MS :=
  (mSeq (mSet 2 (mOp fSub (mVar 1) (mC (.int (1)))))
  (mSeq (mIfS (mB (mOp fEqD (mVar 0) (mC (.str "gregorian")))) (mRet (mOp fAdd (mOp fSub (mOp fAdd (mOp fAdd (mC (.int (1))) (mOp fMul (mC (.int (365))) (mVar 2))) (mOp fDiv (mVar 2) (mC (.int (4))))) (mOp fDiv (mVar 2) (mC (.int (100))))) (mOp fDiv (mVar 2) (mC (.int (400)))))) mNext)
  (mSeq (mIfS (mB (mOp fEqD (mVar 0) (mC (.str "julian")))) (mRet (mOp fAdd (mOp fAdd (mUn fNeg (mC (.int (1)))) (mOp fMul (mC (.int (365))) (mVar 2))) (mOp fDiv (mVar 2) (mC (.int (4)))))) mNext)
  (mSeq (mAsg (gT 2 (gConss (gN 3) (gConss (gN 4) gNils))) (mVar 0))
  (mSeq (mSet 5 (mOp fDiv (mVar 2) (mCB cbLen [(mVar 4)])))
  (mSeq (mSet 6 (mSl fSlT (mVar 4) mNoPart (mPart (mOp fMod (mVar 2) (mCB cbLen [(mVar 4)])))))
  (mRet (mOp fAdd (mOp fAdd (mVar 3) (mOp fMul (mVar 5) (mCall (runP 2 m__length_of) [(mVar 4)]))) (mCall (runP 2 m__length_of) [(mVar 6)])))))))))
def m_month_start : MS :=
  (mRet (mOp fAdd (mCall (runP 7 m_year_start) [(mVar 0), (mVar 1)]) (mCB cbSumT [(mSl fSlT (mCall (runP 3 m_months_of) [(mVar 0), (mVar 1)]) mNoPart (mPart (mOp fSub (mVar 2) (mC (.int (1))))))])))
def m_day_of : MS :=
  (mSeq (mAsg (gT 3 (gConss (gN 2) (gConss (gN 3) (gConss (gN 4) gNils)))) (mVar 1))
  (mSeq (mIfS (mNotT (mB (mChain fLe fLe (mUn fNeg (mC (.int (10000)))) (mVar 2) (mC (.int (10000)))))) (mRaise "DateError" ["code"] [(mC (.str "year"))]) mNext)
  (mSeq (mSet 5 (mCall (runP 6 m_date_fault) [(mVar 0), (mVar 1)]))
  (mSeq (mIfS (mB (mOp fNe (mVar 5) (mC (.str "")))) (mRaise "DateError" ["code"] [(mVar 5)]) mNext)
  (mRet (mOp fSub (mOp fAdd (mCall (runP 3 m_month_start) [(mVar 0), (mVar 2), (mVar 3)]) (mVar 4)) (mC (.int (1)))))))))
def m__is_date : MS :=
  (mSeq (mTryO "DateError" (mDrop (mCallX (runP 6 m_day_of) [(mVar 0), (mVar 1)])) (mRet (mC (.bool false))))
  (mRet (mC (.bool true))))
def m__fits : MS :=
  (mSeq (mIfS (mB (mK1 (fKIn false [("Y", (4)), ("M", (2)), ("D", (2)), ("H", (2)), ("N", (2))]) (mVar 0))) (mRet (mChain fLeS fLeS (mC (.str "0")) (mVar 1) (mC (.str "9")))) mNext)
  (mRet (mOp fEq (mVar 1) (mVar 0))))
def m_read : MS :=
  (mSeq (mSetO 3 (mDict [(.inr "H", (mC (.int (0)))), (.inr "N", (mC (.int (0))))]))
  (mSeq (mSet 4 (mC (.int (0))))
  (mSeq (mFor (itS (mVar 1)) (gN 5) (mSeq (mSet 6 (mOp fAdd (mVar 4) (mKGI [("Y", (4)), ("M", (2)), ("D", (2)), ("H", (2)), ("N", (2))] (mVar 5) (mC (.int (1))))))
  (mSeq (mFor (itR2 [(mVar 4), (mVar 6)]) (gN 7) (mIfS (mOrT (mB (mOp fEq (mVar 7) (mCB cbLenS [(mVar 2)]))) (mNotT (mB (mCall (runP 2 m__fits) [(mVar 5), (mOp fIxS (mVar 2) (mVar 7))])))) (mRaise "PatternError" ["at"] [(mVar 7)]) mNext))
  (mSeq (mIfS (mB (mK1 (fKIn false [("Y", (4)), ("M", (2)), ("D", (2)), ("H", (2)), ("N", (2))]) (mVar 5))) (mPutO 3 (mVar 5) (mCB cbIntS [(mSl fSlS (mVar 2) (mPart (mVar 4)) (mPart (mVar 6)))])) mNext)
  (mSet 4 (mVar 6))))))
  (mSeq (mIfS (mB (mOp fGt (mCB cbLenS [(mVar 2)]) (mVar 4))) (mRaise "PatternError" ["at"] [(mVar 4)]) mNext)
  (mSeq (mSet 8 (mTup [(mGetV 3 (mC (.str "Y"))), (mGetV 3 (mC (.str "M"))), (mGetV 3 (mC (.str "D")))]))
  (mSeq (mIfS (mOrT (mB (mOp fGt (mGetV 3 (mC (.str "H"))) (mC (.int (23))))) (mOrT (mB (mOp fGt (mGetV 3 (mC (.str "N"))) (mC (.int (59))))) (mNotT (mB (mCall (runP 2 m__is_date) [(mVar 0), (mVar 8)]))))) (mRaise "PatternError" ["at"] [(mUn fNeg (mC (.int (1))))]) mNext)
  (mRet (mTup [(mVar 8), (mOp fAdd (mOp fMul (mC (.int (60))) (mGetV 3 (mC (.str "H")))) (mGetV 3 (mC (.str "N"))))]))))))))
def m__law_told : MS :=
  (mTryF "PatternError" 3 (fun d => fieldD d "at") (mRet (mCallX (runP 9 m_read) [(mVar 0), (mVar 1), (mVar 2)])))
def m__law_read : MS :=
  (mSeq (mSetO 3 (mDict [(.inr "H", (mC (.int (0)))), (.inr "N", (mC (.int (0))))]))
  (mSeq (mSet 4 (mC (.int (0))))
  (mSeq (mFor (itS (mVar 1)) (gN 5) (mSeq (mSet 6 (mIf (mB (mOp fEq (mVar 5) (mC (.str "Y")))) (mC (.int (4))) (mC (.int (2)))))
  (mSeq (mIfS (mB (mOp fNotInS (mVar 5) (mC (.str "YMDHN")))) (mSet 6 (mC (.int (1)))) mNext)
  (mSeq (mFor (itR2 [(mVar 4), (mOp fAdd (mVar 4) (mVar 6))]) (gN 7) (mSeq (mSet 8 (mAndV (mOp fLt (mVar 7) (mCB cbLenS [(mVar 2)])) (mIf (mB (mOp fInS (mVar 5) (mC (.str "YMDHN")))) (mOp fInS (mOp fIxS (mVar 2) (mVar 7)) (mC (.str "0123456789"))) (mOp fEq (mOp fIxS (mVar 2) (mVar 7)) (mVar 5)))))
  (mIfS (mNotT (mB (mVar 8))) (mRet (mVar 7)) mNext)))
  (mSeq (mIfS (mB (mOp fInS (mVar 5) (mC (.str "YMDHN")))) (mPutO 3 (mVar 5) (mCB cbIntS [(mSl fSlS (mVar 2) (mPart (mVar 4)) (mPart (mOp fAdd (mVar 4) (mVar 6))))])) mNext)
  (mSet 4 (mOp fAdd (mVar 4) (mVar 6))))))))
  (mSeq (mIfS (mB (mOp fLt (mVar 4) (mCB cbLenS [(mVar 2)]))) (mRet (mVar 4)) mNext)
  (mSeq (mSet 9 (mTup [(mGetV 3 (mC (.str "Y"))), (mGetV 3 (mC (.str "M"))), (mGetV 3 (mC (.str "D")))]))
  (mSeq (mTryO "DateError" (mDrop (mCallX (runP 6 m_day_of) [(mVar 0), (mVar 9)])) (mRet (mUn fNeg (mC (.int (1))))))
  (mRet (mIf (mAndT (mB (mOp fLt (mGetV 3 (mC (.str "H"))) (mC (.int (24))))) (mB (mOp fLt (mGetV 3 (mC (.str "N"))) (mC (.int (60)))))) (mTup [(mVar 9), (mOp fAdd (mOp fMul (mC (.int (60))) (mGetV 3 (mC (.str "H")))) (mGetV 3 (mC (.str "N"))))]) (mUn fNeg (mC (.int (1))))))))))))
def m__is_capital_or_digit : MS :=
  (mRet (mOrV (mChain fLeS fLeS (mC (.str "A")) (mVar 0) (mC (.str "Z"))) (mChain fLeS fLeS (mC (.str "0")) (mVar 0) (mC (.str "9")))))
def m_is_pattern : MS :=
  (mSeq (mIfS (mB (mOp fGt (mCB cbLenS [(mVar 0)]) (mC (.int (40))))) (mRet (mC (.bool false))) mNext)
  (mSeq (mIfS (mB (mOp fNeD (mLc (itS (mC (.str "YMD"))) (gN 1) mYes (mM1 fCount (mVar 0) (mVar 1)) [1]) (mLst [(mC (.int (1))), (mC (.int (1))), (mC (.int (1)))]))) (mRet (mC (.bool false))) mNext)
  (mSeq (mIfS (mOrT (mB (mOp fGt (mM1 fCount (mVar 0) (mC (.str "H"))) (mC (.int (1))))) (mB (mOp fGt (mM1 fCount (mVar 0) (mC (.str "N"))) (mC (.int (1)))))) (mRet (mC (.bool false))) mNext)
  (mRet (mCB cbAll [(mLc (itS (mVar 0)) (gN 1) mYes (mOrV (mK1 (fKIn false [("Y", (4)), ("M", (2)), ("D", (2)), ("H", (2)), ("N", (2))]) (mVar 1)) (mNotV (mCall (runP 1 m__is_capital_or_digit) [(mVar 1)]))) [1])])))))
def m_law : MS :=
  (mSeq (mSetO 1 (mCall (runP 2 m__law_start) [(mVar 0)]))
  (mSeq (mSet 2 (mCallI (runI 2 m__law_pick) 1 [(mLst [(mC (.str "gregorian")), (mC (.str "julian"))])]))
  (mSeq (mSet 3 (mCallI (runI 4 m__law_pattern) 1 []))
  (mSeq (mSet 4 (mCall (runP 3 m__law_is_pattern) [(mVar 3)]))
  (mSeq (mIfS (mNotT (mB (mCall (runP 2 m__law_is) [(mCall (runP 2 m_is_pattern) [(mVar 3)]), (mVar 4)]))) (mRet (mC (.bool false))) mNext)
  (mSeq (mIfS (mNotT (mB (mVar 4))) (mRet (mC (.bool true))) mNext)
  (mSeq (mSet 5 (mTup [(mCallI (runI 4 m__law_draw) 1 [(mC (.int (10000)))]), (mOp fAdd (mC (.int (1))) (mCallI (runI 4 m__law_draw) 1 [(mC (.int (12)))])), (mOp fAdd (mC (.int (1))) (mCallI (runI 4 m__law_draw) 1 [(mC (.int (28)))]))]))
  (mSeq (mSet 6 (mCallI (runI 4 m__law_draw) 1 [(mC (.int (1440)))]))
  (mSeq (mSet 7 (mCall (runP 8 m_write) [(mVar 3), (mVar 5), (mVar 6)]))
  (mSeq (mIfS (mB (mOp fNe (mVar 7) (mCall (runP 7 m__law_written) [(mVar 3), (mVar 5), (mVar 6)]))) (mRet (mC (.bool false))) mNext)
  (mSeq (mSet 8 (mOp fAdd (mIf (mB (mOp fInS (mC (.str "H")) (mVar 3))) (mOp fMul (mC (.int (60))) (mOp fDiv (mVar 6) (mC (.int (60))))) (mC (.int (0)))) (mIf (mB (mOp fInS (mC (.str "N")) (mVar 3))) (mOp fMod (mCB cbInt [(mVar 6)]) (mC (.int (60)))) (mC (.int (0))))))
  (mSeq (mIfS (mB (mOp fNeD (mCall (runP 4 m__law_told) [(mVar 2), (mVar 3), (mVar 7)]) (mTup [(mVar 5), (mVar 8)]))) (mRet (mC (.bool false))) mNext)
  (mSeq (mFor (itR1 [(mOp fAdd (mC (.int (1))) (mCallI (runI 4 m__law_draw) 1 [(mC (.int (2)))]))]) (gN 9) (mSeq (mSet 10 (mCallI (runI 4 m__law_draw) 1 [(mCB cbLenS [(mVar 7)])]))
  (mSeq (mSet 7 (mOp fAddS (mOp fAddS (mSl fSlS (mVar 7) mNoPart (mPart (mVar 10))) (mCallI (runI 2 m__law_pick) 1 [(mLst [(mC (.str "")), (mC (.str "9")), (mC (.str "3")), (mC (.str "-")), (mC (.str "x")), (mC (.str "00"))])])) (mSl fSlS (mVar 7) (mPart (mOp fAdd (mVar 10) (mCallI (runI 4 m__law_draw) 1 [(mC (.int (2)))]))) mNoPart)))
  (mIfS (mB (mOp fEq (mCB cbLenS [(mVar 7)]) (mC (.int (0))))) (mSet 7 (mC (.str "5"))) mNext))))
  (mRet (mOp fEqD (mCall (runP 4 m__law_told) [(mVar 2), (mVar 3), (mVar 7)]) (mCall (runP 10 m__law_read) [(mVar 2), (mVar 3), (mVar 7)]))))))))))))))))
end K33

set_option Elab.async false
set_option linter.all false
set_option maxRecDepth 100000
namespace K33
open PySem PySem.Spec PyProof.Rows L2 Mi
def topS (i : Nat) : Stmt := PySem.Challenge.pw_truealmanac_k33_patterns.main.body.getD i (.Pass ⟨0, 0, 0, 0⟩)
abbrev s_day_of : Stmt := topS 8
abbrev s_date_fault : Stmt := topS 9
abbrev s_months_of : Stmt := topS 10
abbrev s_year_start : Stmt := topS 11
abbrev s_month_start : Stmt := topS 12
abbrev s__is_leap : Stmt := topS 13
abbrev s__length_of : Stmt := topS 14
abbrev s_is_pattern : Stmt := topS 18
abbrev s_write : Stmt := topS 19
abbrev s_read : Stmt := topS 20
abbrev s__is_capital_or_digit : Stmt := topS 21
abbrev s__fits : Stmt := topS 22
abbrev s__is_date : Stmt := topS 23
abbrev s__law_start : Stmt := topS 25
abbrev s__law_draw : Stmt := topS 26
abbrev s__law_pick : Stmt := topS 27
abbrev s__law_is : Stmt := topS 29
abbrev s__law_pattern : Stmt := topS 30
abbrev s__law_is_pattern : Stmt := topS 31
abbrev s__law_written : Stmt := topS 32
abbrev s__law_read : Stmt := topS 33
abbrev s__law_told : Stmt := topS 34
abbrev s_law : Stmt := topS 35
theorem sc_day_of : FnScope ["calendar", "date", "year", "month", "day", "fault"] ["calendar", "date"] (defScope s_day_of) := ⟨rfl, rfl, rfl, by decide +kernel, rfl, by decide +kernel, by decide +kernel⟩
theorem sc_date_fault : FnScope ["calendar", "date", "year", "month", "day", "lengths"] ["calendar", "date"] (defScope s_date_fault) := ⟨rfl, rfl, rfl, by decide +kernel, rfl, by decide +kernel, by decide +kernel⟩
theorem sc_months_of : FnScope ["calendar", "year", "years"] ["calendar", "year"] (defScope s_months_of) := ⟨rfl, rfl, rfl, by decide +kernel, rfl, by decide +kernel, by decide +kernel⟩
theorem sc_year_start : FnScope ["calendar", "year", "before", "first", "years", "rounds", "ahead"] ["calendar", "year"] (defScope s_year_start) := ⟨rfl, rfl, rfl, by decide +kernel, rfl, by decide +kernel, by decide +kernel⟩
theorem sc_month_start : FnScope ["calendar", "year", "month"] ["calendar", "year", "month"] (defScope s_month_start) := ⟨rfl, rfl, rfl, by decide +kernel, rfl, by decide +kernel, by decide +kernel⟩
theorem sc__is_leap : FnScope ["calendar", "year"] ["calendar", "year"] (defScope s__is_leap) := ⟨rfl, rfl, rfl, by decide +kernel, rfl, by decide +kernel, by decide +kernel⟩
theorem sc__length_of : FnScope ["years", "lengths"] ["years"] (defScope s__length_of) := ⟨rfl, rfl, rfl, by decide +kernel, rfl, by decide +kernel, by decide +kernel⟩
theorem sc_is_pattern : FnScope ["pattern", "letter"] ["pattern"] (defScope s_is_pattern) := ⟨rfl, rfl, rfl, by decide +kernel, rfl, by decide +kernel, by decide +kernel⟩
theorem sc_write : FnScope ["pattern", "date", "minute", "hour", "rest", "numbers", "words", "letter"] ["pattern", "date", "minute"] (defScope s_write) := ⟨rfl, rfl, rfl, by decide +kernel, rfl, by decide +kernel, by decide +kernel⟩
theorem sc_read : FnScope ["calendar", "pattern", "text", "numbers", "at", "letter", "end", "place", "date"] ["calendar", "pattern", "text"] (defScope s_read) := ⟨rfl, rfl, rfl, by decide +kernel, rfl, by decide +kernel, by decide +kernel⟩
theorem sc__is_capital_or_digit : FnScope ["letter"] ["letter"] (defScope s__is_capital_or_digit) := ⟨rfl, rfl, rfl, by decide +kernel, rfl, by decide +kernel, by decide +kernel⟩
theorem sc__fits : FnScope ["letter", "written"] ["letter", "written"] (defScope s__fits) := ⟨rfl, rfl, rfl, by decide +kernel, rfl, by decide +kernel, by decide +kernel⟩
theorem sc__is_date : FnScope ["calendar", "date"] ["calendar", "date"] (defScope s__is_date) := ⟨rfl, rfl, rfl, by decide +kernel, rfl, by decide +kernel, by decide +kernel⟩
theorem sc__law_start : FnScope ["script", "cell"] ["script"] (defScope s__law_start) := ⟨rfl, rfl, rfl, by decide +kernel, rfl, by decide +kernel, by decide +kernel⟩
theorem sc__law_draw : FnScope ["state", "bound", "cell", "number"] ["state", "bound"] (defScope s__law_draw) := ⟨rfl, rfl, rfl, by decide +kernel, rfl, by decide +kernel, by decide +kernel⟩
theorem sc__law_pick : FnScope ["state", "things"] ["state", "things"] (defScope s__law_pick) := ⟨rfl, rfl, rfl, by decide +kernel, rfl, by decide +kernel, by decide +kernel⟩
theorem sc__law_is : FnScope ["actual", "due"] ["actual", "due"] (defScope s__law_is) := ⟨rfl, rfl, rfl, by decide +kernel, rfl, by decide +kernel, by decide +kernel⟩
theorem sc__law_pattern : FnScope ["state", "letters", "pattern", "k"] ["state"] (defScope s__law_pattern) := ⟨rfl, rfl, rfl, by decide +kernel, rfl, by decide +kernel, by decide +kernel⟩
theorem sc__law_is_pattern : FnScope ["pattern", "counts", "sign"] ["pattern"] (defScope s__law_is_pattern) := ⟨rfl, rfl, rfl, by decide +kernel, rfl, by decide +kernel, by decide +kernel⟩
theorem sc__law_written : FnScope ["pattern", "date", "minute", "numbers", "text", "sign", "digits"] ["pattern", "date", "minute"] (defScope s__law_written) := ⟨rfl, rfl, rfl, by decide +kernel, rfl, by decide +kernel, by decide +kernel⟩
theorem sc__law_read : FnScope ["calendar", "pattern", "text", "found", "at", "sign", "width", "k", "good", "date"] ["calendar", "pattern", "text"] (defScope s__law_read) := ⟨rfl, rfl, rfl, by decide +kernel, rfl, by decide +kernel, by decide +kernel⟩
theorem sc__law_told : FnScope ["calendar", "pattern", "text", "e"] ["calendar", "pattern", "text"] (defScope s__law_told) := ⟨rfl, rfl, rfl, by decide +kernel, rfl, by decide +kernel, by decide +kernel⟩
theorem sc_law : FnScope ["script", "state", "calendar", "pattern", "due", "date", "minute", "text", "kept", "k", "at"] ["script"] (defScope s_law) := ⟨rfl, rfl, rfl, by decide +kernel, rfl, by decide +kernel, by decide +kernel⟩
abbrev s_DateError__init : Stmt := inClass (topS 2) 0
theorem sc_DateError__init : FnScope ["self", "code"] ["self", "code"] (defScope s_DateError__init) := ⟨rfl, rfl, rfl, by decide +kernel, rfl, by decide +kernel, by decide +kernel⟩
abbrev s_PatternError__init : Stmt := inClass (topS 3) 0
theorem sc_PatternError__init : FnScope ["self", "at"] ["self", "at"] (defScope s_PatternError__init) := ⟨rfl, rfl, rfl, by decide +kernel, rfl, by decide +kernel, by decide +kernel⟩
/-- what the top has left -/
structure Txt (w : World) (K : PySem.W.Frag) (mg : Str → Option Value) : Prop where
  c_YEAR_LIMIT : ∃ t, mg "YEAR_LIMIT" = some (.int 10000 t)
  c_LONGEST : ∃ t, mg "LONGEST" = some (.int 40 t)
  m_abs : mg "abs" = none
  m_all : mg "all" = none
  m_any : mg "any" = none
  m_bool : mg "bool" = none
  m_divmod : mg "divmod" = none
  m_int : mg "int" = none
  m_isinstance : mg "isinstance" = none
  m_len : mg "len" = none
  m_max : mg "max" = none
  m_range : mg "range" = none
  m_str : mg "str" = none
  m_sum : mg "sum" = none
  m_tuple : mg "tuple" = none
  d_day_of : ∃ (f : Addr) (fd : FuncData), Fun K "day_of" "day_of" s_day_of f fd ∧ mg "day_of" = some (.ref f) ∧ L2.Binds K fd ["calendar", "date"] []
  d_date_fault : ∃ (f : Addr) (fd : FuncData), Fun K "date_fault" "date_fault" s_date_fault f fd ∧ mg "date_fault" = some (.ref f) ∧ L2.Binds K fd ["calendar", "date"] []
  d_months_of : ∃ (f : Addr) (fd : FuncData), Fun K "months_of" "months_of" s_months_of f fd ∧ mg "months_of" = some (.ref f) ∧ L2.Binds K fd ["calendar", "year"] []
  d_year_start : ∃ (f : Addr) (fd : FuncData), Fun K "year_start" "year_start" s_year_start f fd ∧ mg "year_start" = some (.ref f) ∧ L2.Binds K fd ["calendar", "year"] []
  d_month_start : ∃ (f : Addr) (fd : FuncData), Fun K "month_start" "month_start" s_month_start f fd ∧ mg "month_start" = some (.ref f) ∧ L2.Binds K fd ["calendar", "year", "month"] []
  d__is_leap : ∃ (f : Addr) (fd : FuncData), Fun K "_is_leap" "_is_leap" s__is_leap f fd ∧ mg "_is_leap" = some (.ref f) ∧ L2.Binds K fd ["calendar", "year"] []
  d__length_of : ∃ (f : Addr) (fd : FuncData), Fun K "_length_of" "_length_of" s__length_of f fd ∧ mg "_length_of" = some (.ref f) ∧ L2.Binds K fd ["years"] []
  d_is_pattern : ∃ (f : Addr) (fd : FuncData), Fun K "is_pattern" "is_pattern" s_is_pattern f fd ∧ mg "is_pattern" = some (.ref f) ∧ L2.Binds K fd ["pattern"] []
  d_write : ∃ (f : Addr) (fd : FuncData), Fun K "write" "write" s_write f fd ∧ mg "write" = some (.ref f) ∧ L2.Binds K fd ["pattern", "date", "minute"] []
  d_read : ∃ (f : Addr) (fd : FuncData), Fun K "read" "read" s_read f fd ∧ mg "read" = some (.ref f) ∧ L2.Binds K fd ["calendar", "pattern", "text"] []
  d__is_capital_or_digit : ∃ (f : Addr) (fd : FuncData), Fun K "_is_capital_or_digit" "_is_capital_or_digit" s__is_capital_or_digit f fd ∧ mg "_is_capital_or_digit" = some (.ref f) ∧ L2.Binds K fd ["letter"] []
  d__fits : ∃ (f : Addr) (fd : FuncData), Fun K "_fits" "_fits" s__fits f fd ∧ mg "_fits" = some (.ref f) ∧ L2.Binds K fd ["letter", "written"] []
  d__is_date : ∃ (f : Addr) (fd : FuncData), Fun K "_is_date" "_is_date" s__is_date f fd ∧ mg "_is_date" = some (.ref f) ∧ L2.Binds K fd ["calendar", "date"] []
  d__law_start : ∃ (f : Addr) (fd : FuncData), Fun K "_law_start" "_law_start" s__law_start f fd ∧ mg "_law_start" = some (.ref f) ∧ L2.Binds K fd ["script"] []
  d__law_draw : ∃ (f : Addr) (fd : FuncData), Fun K "_law_draw" "_law_draw" s__law_draw f fd ∧ mg "_law_draw" = some (.ref f) ∧ L2.Binds K fd ["state", "bound"] []
  d__law_pick : ∃ (f : Addr) (fd : FuncData), Fun K "_law_pick" "_law_pick" s__law_pick f fd ∧ mg "_law_pick" = some (.ref f) ∧ L2.Binds K fd ["state", "things"] []
  d__law_is : ∃ (f : Addr) (fd : FuncData), Fun K "_law_is" "_law_is" s__law_is f fd ∧ mg "_law_is" = some (.ref f) ∧ L2.Binds K fd ["actual", "due"] []
  d__law_pattern : ∃ (f : Addr) (fd : FuncData), Fun K "_law_pattern" "_law_pattern" s__law_pattern f fd ∧ mg "_law_pattern" = some (.ref f) ∧ L2.Binds K fd ["state"] []
  d__law_is_pattern : ∃ (f : Addr) (fd : FuncData), Fun K "_law_is_pattern" "_law_is_pattern" s__law_is_pattern f fd ∧ mg "_law_is_pattern" = some (.ref f) ∧ L2.Binds K fd ["pattern"] []
  d__law_written : ∃ (f : Addr) (fd : FuncData), Fun K "_law_written" "_law_written" s__law_written f fd ∧ mg "_law_written" = some (.ref f) ∧ L2.Binds K fd ["pattern", "date", "minute"] []
  d__law_read : ∃ (f : Addr) (fd : FuncData), Fun K "_law_read" "_law_read" s__law_read f fd ∧ mg "_law_read" = some (.ref f) ∧ L2.Binds K fd ["calendar", "pattern", "text"] []
  d__law_told : ∃ (f : Addr) (fd : FuncData), Fun K "_law_told" "_law_told" s__law_told f fd ∧ mg "_law_told" = some (.ref f) ∧ L2.Binds K fd ["calendar", "pattern", "text"] []
  d_law : ∃ (f : Addr) (fd : FuncData), Fun K "law" "law" s_law f fd ∧ mg "law" = some (.ref f) ∧ L2.Binds K fd ["script"] []
  c_MONTHS : ∃ a : Addr, mg "MONTHS" = some (.ref a) ∧ ∀ F : Hp, Rp K F (.ref a) (.tuple [.int (31), .int (28), .int (31), .int (30), .int (31), .int (30), .int (31), .int (31), .int (30), .int (31), .int (30), .int (31)])
  c_LEAP_MONTHS : ∃ a : Addr, mg "LEAP_MONTHS" = some (.ref a) ∧ ∀ F : Hp, Rp K F (.ref a) (.tuple [.int (31), .int (29), .int (31), .int (30), .int (31), .int (30), .int (31), .int (31), .int (30), .int (31), .int (30), .int (31)])
  c_DIGITS : ∃ a : Addr, mg "DIGITS" = some (.ref a) ∧ KTabI K w a [("Y", (4)), ("M", (2)), ("D", (2)), ("H", (2)), ("N", (2))]
  x_DateError : ∃ C : Addr, ExcT K mg "DateError" ["code"] ["self", "code"] s_DateError__init "DateError.__init__" C
  x_PatternError : ∃ C : Addr, ExcT K mg "PatternError" ["at"] ["self", "at"] s_PatternError__init "PatternError.__init__" C
section
variable {P : Program} {w : World} {K : PySem.W.Frag} {mg : Str → Option Value} {base : Heap}
theorem ok_DateError__init {C : Addr} (e : ExcT K mg "DateError" ["code"] ["self", "code"] s_DateError__init "DateError.__init__" C) : ∃ (f : Addr) (fd : FuncData), PySem.W.findIn K (.ref C) "__init__" = some (some (.ref f)) ∧ PySem.W.typeIn K (.ref f) = some (.type "function") ∧ FnOk P w K mg base CX0 1 f fd ["self", "code"] (spInit K ["code"]) ∧ L2.Binds K fd ["self", "code"] [] := by
  obtain ⟨f, fd, a, t, F, b⟩ := e.ini
  refine ⟨f, fd, a, t, ?_, b⟩
  refine F.ok sc_DateError__init (fun vs H Q E h => h.1) (fun cdv A outer s H vs Q E hr h => ?_)
  exact ⟨_, pss_one (ps_ost (pv 0) (pv 1)), init1 h⟩
theorem ok_PatternError__init {C : Addr} (e : ExcT K mg "PatternError" ["at"] ["self", "at"] s_PatternError__init "PatternError.__init__" C) : ∃ (f : Addr) (fd : FuncData), PySem.W.findIn K (.ref C) "__init__" = some (some (.ref f)) ∧ PySem.W.typeIn K (.ref f) = some (.type "function") ∧ FnOk P w K mg base CX0 1 f fd ["self", "at"] (spInit K ["at"]) ∧ L2.Binds K fd ["self", "at"] [] := by
  obtain ⟨f, fd, a, t, F, b⟩ := e.ini
  refine ⟨f, fd, a, t, ?_, b⟩
  refine F.ok sc_PatternError__init (fun vs H Q E h => h.1) (fun cdv A outer s H vs Q E hr h => ?_)
  exact ⟨_, pss_one (ps_ost (pv 0) (pv 1)), init1 h⟩
theorem ok__law_start (T : Txt w K mg) : ∃ (f : Addr) (fd : FuncData), FnOk P w K mg base CX0 1 f fd ["script"] (spF K 1 (runP 2 m__law_start)) ∧ mg "_law_start" = some (.ref f) ∧ PySem.W.keepIn K (.ref f) = true ∧ L2.Binds K fd ["script"] [] := by
  obtain ⟨f, fd, F, g, bi⟩ := T.d__law_start
  refine ⟨f, fd, ?_, g, F.kp, bi⟩
  refine F.ok sc__law_start (fun vs H Q E h => h.1) (fun cdv A outer s H vs Q E hr h => ?_)
  exact fin_F (mg := mg) (m := (mDict [(.inr "cells", (mLc (itL (mVar 0)) (gN 1) mYes (mCB cbAbs [(mCB cbInt [(mVar 1)])]) [1])), (.inr "at", (mC (.int (0)))), (.inr "left", (mC (.int (0)))), (.inr "mix", (mOp fAdd (mC (.int (7))) (mCB cbLen [(mVar 0)])))])) (pss_one (ps_ret (pe_disp (pps_cons pe_str (pe_lc (own := [("cell", 1)]) (g := gName 1) (tt := tYes) (by rfl) sc__law_start.nd (pi_list (pv 0)) (blkOk_by (own := [("cell", 1)]) (N := ["script", "cell"]) (sc := defScope s__law_start) (by decide +kernel)) (fun _ _ _ _ _ => (pg_name (i := 1) sc__law_start.nd rfl (by first | exact Or.inl rfl | exact Or.inr rfl))) (fun _ _ _ _ _ => pts_nil) (fun _ _ _ _ _ => (pe_callB call_abs (by rfl) T.m_abs (by decide +kernel) (pa_cons (pe_callTy call_int1 (by rfl) T.m_int (by decide +kernel) (pa_cons (pv 1) pa_nil)) pa_nil)))) (pps_cons pe_str pe_int (pps_cons pe_str pe_int (pps_cons pe_str (pe_op op_add pe_int (pe_callB call_len_seq (by rfl) T.m_len (by decide +kernel) (pa_cons (pv 0) pa_nil))) pps_nil)))) (by rfl) (by rfl) (fun z => by cases z) (by decide)))) (shf_disp (shp_cons (k := Sum.inr "cells") (ShF.e (shf_lc (shi_list (sh_var 0)) (shg_name 1) (by decide) sht_yes (sh_cb cs_abs (sha_cons (sh_cb cs_int (sha_cons (sh_var 1) sha_nil)) sha_nil)))) (shp_cons (k := Sum.inr "at") (sh_int (0)) (shp_cons (k := Sum.inr "left") (sh_int (0)) (shp_cons (k := Sum.inr "mix") (sh_op Mi.s_add (sh_int (7)) (sh_cb cs_len (sha_cons (sh_var 0) sha_nil))) shp_nil)))) (Nat.le_of_ble_eq_true rfl)) h (by decide)
theorem ok__law_draw (T : Txt w K mg) : ∃ (f : Addr) (fd : FuncData), FnOk P w K mg base CX0 1 f fd ["state", "bound"] (spI K 1 (runI 4 m__law_draw)) ∧ mg "_law_draw" = some (.ref f) ∧ PySem.W.keepIn K (.ref f) = true ∧ L2.Binds K fd ["state", "bound"] [] := by
  obtain ⟨f, fd, F, g, bi⟩ := T.d__law_draw
  refine ⟨f, fd, ?_, g, F.kp, bi⟩
  refine F.ok sc__law_draw (fun vs H Q E h => h.1) (fun cdv A outer s H vs Q E hr h => ?_)
  exact fin_I (mg := mg) (f := m__law_draw) (pss_cons (ps_if (PW.pt (pw_and (pt_cmpR op_eq (pe_dget (hu_of hr) (pv 0) pe_str (fun _ _ => rfl)) pe_int (nomark _)) (pw_and1 (pt_cmpR op_lt (pe_dget (hu_of hr) (pv 0) pe_str (fun _ _ => rfl)) (pe_callB call_len_seq (by rfl) T.m_len (by decide +kernel) (pa_cons (pe_dget (hu_of hr) (pv 0) pe_str (fun _ _ => rfl)) pa_nil)) (nomark _))))) (pss_cons (ps_set (i := 2) sc__law_draw.nd rfl (by first | exact Or.inl rfl | exact Or.inr rfl) (pe_ix ix_list (pe_dget (hu_of hr) (pv 0) pe_str (fun _ _ => rfl)) (pe_dget (hu_of hr) (pv 0) pe_str (fun _ _ => rfl)) (fun _ _ => rfl)))
      (pss_cons (ps_dput (hu_of hr) (pv 0) pe_str (pe_op op_add (pe_dget (hu_of hr) (pv 0) pe_str (fun _ _ => rfl)) pe_int) rfl)
      (pss_cons (ps_dput (hu_of hr) (pv 0) pe_str (pe_op op_mod (pe_callTy call_int1 (by rfl) T.m_int (by decide +kernel) (pa_cons (pe_op op_add (pe_op op_add (pe_op op_mul (pe_dget (hu_of hr) (pv 0) pe_str (fun _ _ => rfl)) pe_int) (pv 2)) pe_int) pa_nil)) pe_int) rfl)
      (pss_cons (ps_if (pt_cmpR op_lt (pv 2) (pe_op op_pow pe_int pe_int) (nomark _)) (pss_one (ps_ret (pe_op op_mod (pe_callTy call_int1 (by rfl) T.m_int (by decide +kernel) (pa_cons (pv 2) pa_nil)) (pv 1)))) pss_nil)
      (pss_one (ps_dput (hu_of hr) (pv 0) pe_str (pv 2) rfl)))))) pss_nil)
      (pss_cons (ps_if (pt_cmpR op_gt (pe_dget (hu_of hr) (pv 0) pe_str (fun _ _ => rfl)) pe_int (nomark _)) (pss_cons (ps_set (i := 3) sc__law_draw.nd rfl (by first | exact Or.inl rfl | exact Or.inr rfl) (pe_op op_mod (pe_callTy call_int1 (by rfl) T.m_int (by decide +kernel) (pa_cons (pe_dget (hu_of hr) (pv 0) pe_str (fun _ _ => rfl)) pa_nil)) (pv 1)))
      (pss_cons (ps_dput (hu_of hr) (pv 0) pe_str (pe_op op_fdivW (pe_dget (hu_of hr) (pv 0) pe_str (fun _ _ => rfl)) (pv 1)) rfl)
      (pss_one (ps_ret (pv 3))))) pss_nil)
      (pss_cons (ps_dput (hu_of hr) (pv 0) pe_str (pe_op op_mod (pe_callTy call_int1 (by rfl) T.m_int (by decide +kernel) (pa_cons (pe_op op_add (pe_op op_mul (pe_dget (hu_of hr) (pv 0) pe_str (fun _ _ => rfl)) pe_int) pe_int) pa_nil)) pe_int) rfl)
      (pss_one (ps_ret (pe_op op_mod (pe_callTy call_int1 (by rfl) T.m_int (by decide +kernel) (pa_cons (pe_op op_mod (pe_callTy call_int1 (by rfl) T.m_int (by decide +kernel) (pa_cons (pe_op op_add (pe_op op_mul (pe_dget (hu_of hr) (pv 0) pe_str (fun _ _ => rfl)) pe_int) pe_int) pa_nil)) pe_int) pa_nil)) (pv 1))))))) (shs_seq (shs_if (sht_and (sht_test (sh_op Mi.s_eq (sh_getV (sh_str "left")) (sh_int (0)))) (sht_test (sh_op Mi.s_lt (sh_getV (sh_str "at")) (sh_cb cs_len (sha_cons (sh_getV (sh_str "cells")) sha_nil))))) (shs_seq (shs_asg (shg_name 2) (sh_op Mi.s_ixL (sh_getV (sh_str "cells")) (sh_getV (sh_str "at"))))
  (shs_seq (shs_putO (sh_str "at") (sh_op Mi.s_add (sh_getV (sh_str "at")) (sh_int (1))))
  (shs_seq (shs_putO (sh_str "mix") (sh_op Mi.s_mod (sh_cb cs_int (sha_cons (sh_op Mi.s_add (sh_op Mi.s_add (sh_op Mi.s_mul (sh_getV (sh_str "mix")) (sh_int (48271))) (sh_var 2)) (sh_int (11))) sha_nil)) (sh_int (2147483647))))
  (shs_seq (shs_if (sht_test (sh_op Mi.s_lt (sh_var 2) (sh_op Mi.s_pow (sh_int (10)) (sh_int (18))))) (shs_ret (sh_op Mi.s_mod (sh_cb cs_int (sha_cons (sh_var 2) sha_nil)) (sh_var 1))) shs_next)
  (shs_putO (sh_str "left") (sh_var 2)))))) shs_next)
  (shs_seq (shs_if (sht_test (sh_op Mi.s_gt (sh_getV (sh_str "left")) (sh_int (0)))) (shs_seq (shs_asg (shg_name 3) (sh_op Mi.s_mod (sh_cb cs_int (sha_cons (sh_getV (sh_str "left")) sha_nil)) (sh_var 1)))
  (shs_seq (shs_putO (sh_str "left") (sh_op Mi.s_fdivW (sh_getV (sh_str "left")) (sh_var 1)))
  (shs_ret (sh_var 3)))) shs_next)
  (shs_seq (shs_putO (sh_str "mix") (sh_op Mi.s_mod (sh_cb cs_int (sha_cons (sh_op Mi.s_add (sh_op Mi.s_mul (sh_getV (sh_str "mix")) (sh_int (48271))) (sh_int (11))) sha_nil)) (sh_int (2147483647))))
  (shs_ret (sh_op Mi.s_mod (sh_cb cs_int (sha_cons (sh_op Mi.s_mod (sh_cb cs_int (sha_cons (sh_op Mi.s_add (sh_op Mi.s_mul (sh_getV (sh_str "mix")) (sh_int (69621))) (sh_int (5))) sha_nil)) (sh_int (2147483629))) sha_nil)) (sh_var 1)))))) h (by decide)
theorem ok__law_pick (T : Txt w K mg) : ∃ (f : Addr) (fd : FuncData), FnOk P w K mg base CX0 2 f fd ["state", "things"] (spI K 1 (runI 2 m__law_pick)) ∧ mg "_law_pick" = some (.ref f) ∧ PySem.W.keepIn K (.ref f) = true ∧ L2.Binds K fd ["state", "things"] [] := by
  obtain ⟨f, fd, F, g, bi⟩ := T.d__law_pick
  obtain ⟨f__law_draw, fd__law_draw, G__law_draw, g__law_draw, kp__law_draw, b__law_draw⟩ := ok__law_draw (P := P) (w := w) (base := base) T
  refine ⟨f, fd, ?_, g, F.kp, bi⟩
  refine F.ok sc__law_pick (fun vs H Q E h => h.1) (fun cdv A outer s H vs Q E hr h => ?_)
  exact fin_I (mg := mg) (f := m__law_pick) (pss_one (ps_ret (pe_ix ix_list (pv 1) (pe_call G__law_draw (hr.mono (by omega)) (by rfl) g__law_draw kp__law_draw b__law_draw .nil pass0 (pa_cons (pv 0) (pa_cons (pe_callB call_len_seq (by rfl) T.m_len (by decide +kernel) (pa_cons (pv 1) pa_nil)) pa_nil))) (fun _ _ => rfl)))) (shs_ret (sh_op Mi.s_ixL (sh_var 1) (sh_callI (sha_cons (sh_cb cs_len (sha_cons (sh_var 1) sha_nil)) sha_nil) rfl))) h (by decide)
theorem ok__law_pattern (T : Txt w K mg) : ∃ (f : Addr) (fd : FuncData), FnOk P w K mg base CX0 3 f fd ["state"] (spI K 0 (runI 4 m__law_pattern)) ∧ mg "_law_pattern" = some (.ref f) ∧ PySem.W.keepIn K (.ref f) = true ∧ L2.Binds K fd ["state"] [] := by
  obtain ⟨f, fd, F, g, bi⟩ := T.d__law_pattern
  obtain ⟨f__law_pick, fd__law_pick, G__law_pick, g__law_pick, kp__law_pick, b__law_pick⟩ := ok__law_pick (P := P) (w := w) (base := base) T
  obtain ⟨f__law_draw, fd__law_draw, G__law_draw, g__law_draw, kp__law_draw, b__law_draw⟩ := ok__law_draw (P := P) (w := w) (base := base) T
  refine ⟨f, fd, ?_, g, F.kp, bi⟩
  refine F.ok sc__law_pattern (fun vs H Q E h => h.1) (fun cdv A outer s H vs Q E hr h => ?_)
  exact fin_I (mg := mg) (f := m__law_pattern) (pss_cons (ps_set (i := 1) sc__law_pattern.nd rfl (by first | exact Or.inl rfl | exact Or.inr rfl) (pe_op op_cat (pe_lst (pa_cons pe_str (pa_cons pe_str (pa_cons pe_str pa_nil)))) (pe_call G__law_pick (hr.mono (by omega)) (by rfl) g__law_pick kp__law_pick b__law_pick .nil pass0 (pa_cons (pv 0) (pa_cons (pe_lst (pa_cons (pe_lst pa_nil) (pa_cons (pe_lst (pa_cons pe_str (pa_cons pe_str pa_nil))) (pa_cons (pe_lst (pa_cons pe_str pa_nil)) (pa_cons (pe_lst (pa_cons pe_str pa_nil)) pa_nil))))) pa_nil)))))
      (pss_cons (ps_set (i := 2) sc__law_pattern.nd rfl (by first | exact Or.inl rfl | exact Or.inr rfl) pe_str)
      (pss_cons (ps_for PassesOwn.never rfl (pi_range1 (by rfl) T.m_range (pa_cons (pe_callB call_len_seq (by rfl) T.m_len (by decide +kernel) (pa_cons (pv 1) pa_nil)) pa_nil)) (pg_name (i := 3) sc__law_pattern.nd rfl (by first | exact Or.inl rfl | exact Or.inr rfl)) (pss_cons (ps_set (i := 2) sc__law_pattern.nd rfl (by first | exact Or.inl rfl | exact Or.inr rfl) (pe_op op_add_str (pv 2) (pe_bm PySem.F.plainAttrs_list PySem.F.slot_list_pop PySem.F.type_list_pop mt_popAt (pv 1) (pa_cons (pe_call G__law_draw (hr.mono (by omega)) (by rfl) g__law_draw kp__law_draw b__law_draw .nil pass0 (pa_cons (pv 0) (pa_cons (pe_callB call_len_seq (by rfl) T.m_len (by decide +kernel) (pa_cons (pv 1) pa_nil)) pa_nil))) pa_nil))))
      (pss_one (ps_set (i := 2) sc__law_pattern.nd rfl (by first | exact Or.inl rfl | exact Or.inr rfl) (pe_op op_add_str (pv 2) (pe_call G__law_pick (hr.mono (by omega)) (by rfl) g__law_pick kp__law_pick b__law_pick .nil pass0 (pa_cons (pv 0) (pa_cons (pe_lst (pa_cons pe_str (pa_cons pe_str (pa_cons pe_str (pa_cons pe_str (pa_cons pe_str (pa_cons pe_str (pa_cons pe_str (pa_cons pe_str pa_nil))))))))) pa_nil))))))))
      (pss_cons (ps_if (pt_cmpR op_eq (pe_call G__law_draw (hr.mono (by omega)) (by rfl) g__law_draw kp__law_draw b__law_draw .nil pass0 (pa_cons (pv 0) (pa_cons pe_int pa_nil))) pe_int (nomark _)) (pss_cons (ps_set (i := 2) sc__law_pattern.nd rfl (by first | exact Or.inl rfl | exact Or.inr rfl) (pe_op op_add_str (pv 2) (pe_call G__law_pick (hr.mono (by omega)) (by rfl) g__law_pick kp__law_pick b__law_pick .nil pass0 (pa_cons (pv 0) (pa_cons (pe_lst (pa_cons pe_str (pa_cons pe_str (pa_cons pe_str (pa_cons pe_str (pa_cons pe_str (pa_cons (pe_op op_mulS pe_str pe_int) (pa_cons pe_str (pa_cons pe_str pa_nil))))))))) pa_nil)))))
      (pss_one (ps_set (i := 2) sc__law_pattern.nd rfl (by first | exact Or.inl rfl | exact Or.inr rfl) (pe_slice sl_str (pv 2) (po_some (pe_call G__law_draw (hr.mono (by omega)) (by rfl) g__law_draw kp__law_draw b__law_draw .nil pass0 (pa_cons (pv 0) (pa_cons pe_int pa_nil)))) po_none)))) pss_nil)
      (pss_one (ps_ret (pv 2))))))) (shs_seq (shs_setO (shf_op f_catL (ShF.e (shf_lst (sha_cons (sh_str "Y") (sha_cons (sh_str "M") (sha_cons (sh_str "D") sha_nil))) (Nat.le_of_ble_eq_true rfl))) (sh_callI (sha_cons (ShF.e (shf_lst (sha_cons (ShF.e (shf_lst sha_nil (Nat.le_of_ble_eq_true rfl))) (sha_cons (ShF.e (shf_lst (sha_cons (sh_str "H") (sha_cons (sh_str "N") sha_nil)) (Nat.le_of_ble_eq_true rfl))) (sha_cons (ShF.e (shf_lst (sha_cons (sh_str "N") sha_nil) (Nat.le_of_ble_eq_true rfl))) (sha_cons (ShF.e (shf_lst (sha_cons (sh_str "H") sha_nil) (Nat.le_of_ble_eq_true rfl))) sha_nil)))) (Nat.le_of_ble_eq_true rfl))) sha_nil) rfl)))
  (shs_seq (shs_asg (shg_name 2) (sh_str ""))
  (shs_seq (shs_for (shi_rng1 (sha_cons sh_lenV sha_nil)) (shg_name 3) (shs_seq (shs_asg (shg_name 2) (sh_op Mi.s_addS (sh_var 2) (sh_popAt (sh_callI (sha_cons sh_lenV sha_nil) rfl))))
  (shs_asg (shg_name 2) (sh_op Mi.s_addS (sh_var 2) (sh_callI (sha_cons (ShF.e (shf_lst (sha_cons (sh_str "") (sha_cons (sh_str "-") (sha_cons (sh_str "/") (sha_cons (sh_str " ") (sha_cons (sh_str ". ") (sha_cons (sh_str "y") (sha_cons (sh_str ":") (sha_cons (sh_str "of") sha_nil)))))))) (Nat.le_of_ble_eq_true rfl))) sha_nil) rfl)))))
  (shs_seq (shs_if (sht_test (sh_op Mi.s_eq (sh_callI (sha_cons (sh_int (3)) sha_nil) rfl) (sh_int (0)))) (shs_seq (shs_asg (shg_name 2) (sh_op Mi.s_addS (sh_var 2) (sh_callI (sha_cons (ShF.e (shf_lst (sha_cons (sh_str "Y") (sha_cons (sh_str "M") (sha_cons (sh_str "H") (sha_cons (sh_str "Z") (sha_cons (sh_str "7") (sha_cons (sh_op Mi.s_mulS (sh_str "x") (sh_int (41))) (sha_cons (sh_str "") (sha_cons (sh_str "?") sha_nil)))))))) (Nat.le_of_ble_eq_true rfl))) sha_nil) rfl)))
  (shs_asg (shg_name 2) (sh_slS (sh_var 2) (sho_some (sh_callI (sha_cons (sh_int (2)) sha_nil) rfl)) sho_none))) shs_next)
  (shs_ret (sh_var 2)))))) h (by decide)
theorem ok__law_is_pattern (T : Txt w K mg) : ∃ (f : Addr) (fd : FuncData), FnOk P w K mg base CX0 1 f fd ["pattern"] (spP K mg 1 (runP 3 m__law_is_pattern)) ∧ mg "_law_is_pattern" = some (.ref f) ∧ PySem.W.keepIn K (.ref f) = true ∧ L2.Binds K fd ["pattern"] [] := by
  obtain ⟨f, fd, F, g, bi⟩ := T.d__law_is_pattern
  refine ⟨f, fd, ?_, g, F.kp, bi⟩
  refine F.ok sc__law_is_pattern (fun vs H Q E h => h.1) (fun cdv A outer s H vs Q E hr h => ?_)
  exact fin_P (mg := mg) (f := m__law_is_pattern) (pss_cons (ps_if (PW.pt (pw_or (pt_cmpR op_gt (pe_callB call_len_str (by rfl) T.m_len (by decide +kernel) (pa_cons (pv 0) pa_nil)) pe_int (nomark _)) (pw_or1 (pt_val (pe_callB (cr_any rfl) (by rfl) T.m_any (by decide +kernel) (pa_cons (pe_lc (own := [("sign", 2)]) (g := gName 2) (tt := tYes) (by rfl) sc__law_is_pattern.nd (pi_str (pv 0)) (blkOk_by (own := [("sign", 2)]) (N := ["pattern", "counts", "sign"]) (sc := defScope s__law_is_pattern) (by decide +kernel)) (fun _ _ _ _ _ => (pg_name (i := 2) sc__law_is_pattern.nd rfl (by first | exact Or.inl rfl | exact Or.inr rfl))) (fun _ _ _ _ _ => pts_nil) (fun _ _ _ _ _ => (pe_cmpR op_in_str (pv 2) pe_str (by rfl)))) pa_nil)))))) (pss_one (ps_ret pe_bl)) pss_nil)
      (pss_cons (ps_setLc (i := 1) (own := [("sign", 2)]) (g := gName 2) (tt := tYes) (by rfl) sc__law_is_pattern.nd rfl rfl (sw_true rfl rfl rfl (by decide +kernel)) (pi_str pe_str) (blkOk_by (own := [("sign", 2)]) (N := ["pattern", "counts", "sign"]) (sc := defScope s__law_is_pattern) (by decide +kernel)) (fun _ _ _ _ _ => (pg_name (i := 2) sc__law_is_pattern.nd rfl (by first | exact Or.inl rfl | exact Or.inr rfl))) (fun _ _ _ _ _ => pts_nil) (fun _ _ _ _ _ => (pe_m1 PySem.F.slot_str_count PySem.F.type_str_count mt_count (pv 0) (pv 2))))
      (pss_one (ps_ret (pe_and (pe_cmpR (op_eqD hr.units) (pe_slice sl_list (pv 1) po_none (po_some pe_int)) (pe_lst (pa_cons pe_int (pa_cons pe_int (pa_cons pe_int pa_nil)))) (nomark _)) (pe_one (pe_cmpR op_le (pe_callB (cr_max rfl) (by rfl) T.m_max (by decide +kernel) (pa_cons (pv 1) pa_nil)) pe_int (nomark _)))))))) (shs_seq (shs_if (sht_or (sht_test (sh_op Mi.s_gt (sh_cb cs_lenS (sha_cons (sh_var 0) sha_nil)) (sh_int (40)))) (sht_B (sh_cb cs_any (sha_cons (ShF.e (shf_lc (shi_str (sh_var 0)) (shg_name 2) (by decide) sht_yes (sh_op Mi.s_inS (sh_var 2) (sh_str "0123456789ABCEFGIJKLOPQRSTUVWXZ")))) sha_nil)))) (shs_ret (sh_bl false)) shs_next)
  (shs_seq (shs_asg (shg_name 1) (ShF.e (shf_lc (shi_str (sh_str "YMDHN")) (shg_name 2) (by decide) sht_yes (sh_m1 Mi.m_count (sh_var 0) (sh_var 2)))))
  (shs_ret (sh_andV (sh_op Mi.s_eqD (ShF.e (shf_slL (sh_var 1) sho_none (sho_some (sh_int (3))))) (ShF.e (shf_lst (sha_cons (sh_int (1)) (sha_cons (sh_int (1)) (sha_cons (sh_int (1)) sha_nil))) (Nat.le_of_ble_eq_true rfl)))) (sh_op Mi.s_le (sh_cb cs_max (sha_cons (sh_var 1) sha_nil)) (sh_int (1))))))) h (by decide)
theorem ok_write (T : Txt w K mg) : ∃ (f : Addr) (fd : FuncData), FnOk P w K mg base CX0 1 f fd ["pattern", "date", "minute"] (spP K mg 3 (runP 8 m_write)) ∧ mg "write" = some (.ref f) ∧ PySem.W.keepIn K (.ref f) = true ∧ L2.Binds K fd ["pattern", "date", "minute"] [] := by
  obtain ⟨f, fd, F, g, bi⟩ := T.d_write
  obtain ⟨a_DIGITS, c_DIGITS, r_DIGITS⟩ := T.c_DIGITS
  refine ⟨f, fd, ?_, g, F.kp, bi⟩
  refine F.ok sc_write (fun vs H Q E h => h.1) (fun cdv A outer s H vs Q E hr h => ?_)
  exact fin_P (mg := mg) (f := m_write) (pss_cons (ps_asg (pe_callB call_divmod (by rfl) T.m_divmod (by decide +kernel) (pa_cons (pv 2) (pa_cons pe_int pa_nil))) (pg_tup (by rfl) (pgs_cons (pg_name (i := 3) sc_write.nd rfl (by first | exact Or.inl rfl | exact Or.inr rfl)) (pgs_cons (pg_name (i := 4) sc_write.nd rfl (by first | exact Or.inl rfl | exact Or.inr rfl)) pgs_nil))))
      (pss_cons (ps_set (i := 5) sc_write.nd rfl (by first | exact Or.inl rfl | exact Or.inr rfl) (pe_disp (pps_cons pe_str (pe_ix ix_tup (pv 1) pe_int (fun _ _ => rfl)) (pps_cons pe_str (pe_ix ix_tup (pv 1) pe_int (fun _ _ => rfl)) (pps_cons pe_str (pe_ix ix_tup (pv 1) pe_int (fun _ _ => rfl)) (pps_cons pe_str (pv 3) (pps_cons pe_str (pv 4) pps_nil))))) (by rfl) (by rfl) (fun z => by cases z) (by decide)))
      (pss_cons (ps_set (i := 6) sc_write.nd rfl (by first | exact Or.inl rfl | exact Or.inr rfl) (pe_lst pa_nil))
      (pss_cons (ps_for PassesOwn.never rfl (pi_str (pv 0)) (pg_name (i := 7) sc_write.nd rfl (by first | exact Or.inl rfl | exact Or.inr rfl)) (pss_one (ps_if (pt_cmp (pc_kin rfl c_DIGITS r_DIGITS (pv 7))) (pss_one (ps_expr (pe_bm PySem.F.plainAttrs_list PySem.F.slot_list_append PySem.F.type_list_append mt_append (pv 6) (pa_cons (pe_m1 PySem.F.slot_str_zfill PySem.F.type_str_zfill mt_zfill (pe_callTy call_strS (by rfl) T.m_str (by decide +kernel) (pa_cons (pe_dget (hu_of hr) (pv 5) (pv 7) (fun _ _ => rfl)) pa_nil)) (pe_kix rfl c_DIGITS r_DIGITS (pv 7) (fun _ _ => rfl))) pa_nil)))) (pss_one (ps_expr (pe_bm PySem.F.plainAttrs_list PySem.F.slot_list_append PySem.F.type_list_append mt_append (pv 6) (pa_cons (pv 7) pa_nil)))))))
      (pss_one (ps_ret (pe_join pe_str (pv 6)))))))) (shs_seq (shs_asg (shg_tup (shgs_cons (shg_name 3) (shgs_cons (shg_name 4) shgs_nil))) (sh_cb cs_divmod (sha_cons (sh_var 2) (sha_cons (sh_int (60)) sha_nil))))
  (shs_seq (shs_asg (shg_name 5) (ShF.e (shf_disp (shp_cons (k := Sum.inr "Y") (sh_op Mi.s_ixT (sh_var 1) (sh_int (0))) (shp_cons (k := Sum.inr "M") (sh_op Mi.s_ixT (sh_var 1) (sh_int (1))) (shp_cons (k := Sum.inr "D") (sh_op Mi.s_ixT (sh_var 1) (sh_int (2))) (shp_cons (k := Sum.inr "H") (sh_var 3) (shp_cons (k := Sum.inr "N") (sh_var 4) shp_nil))))) (Nat.le_of_ble_eq_true rfl))))
  (shs_seq (shs_setO (shf_lst sha_nil (Nat.le_of_ble_eq_true rfl)))
  (shs_seq (shs_for (shi_str (sh_var 0)) (shg_name 7) (shs_if (sht_test (sh_kin (sh_var 7))) (shs_drop (sh_app (sh_m1 Mi.m_zfill (sh_cb cs_strS (sha_cons (sh_get (sh_var 5) (sh_var 7)) sha_nil)) (sh_kix (sh_var 7))))) (shs_drop (sh_app (sh_var 7)))))
  (shs_ret (sh_m1 Mi.m_join (sh_str "") (sh_var 6))))))) h (by decide)
theorem ok__law_is (T : Txt w K mg) : ∃ (f : Addr) (fd : FuncData), FnOk P w K mg base CX0 1 f fd ["actual", "due"] (spP K mg 2 (runP 2 m__law_is)) ∧ mg "_law_is" = some (.ref f) ∧ PySem.W.keepIn K (.ref f) = true ∧ L2.Binds K fd ["actual", "due"] [] := by
  obtain ⟨f, fd, F, g, bi⟩ := T.d__law_is
  refine ⟨f, fd, ?_, g, F.kp, bi⟩
  refine F.ok sc__law_is (fun vs H Q E h => h.1) (fun cdv A outer s H vs Q E hr h => ?_)
  exact fin_P (mg := mg) (f := m__law_is) (pss_one (ps_ret (pe_and (pe_callB call_isi (by rfl) T.m_isinstance (by decide +kernel) (pa_cons (pv 0) (pa_cons (pe_bltn (v := .ty "bool") (by rfl) T.m_bool (by decide +kernel) rfl) pa_nil))) (pe_one (pe_cmpR op_eq (pv 0) (pv 1) (nomark _)))))) (shs_ret (sh_andV (sh_isi (sh_var 0)) (sh_op Mi.s_eq (sh_var 0) (sh_var 1)))) h (by decide)
theorem ok__law_written (T : Txt w K mg) : ∃ (f : Addr) (fd : FuncData), FnOk P w K mg base CX0 1 f fd ["pattern", "date", "minute"] (spP K mg 3 (runP 7 m__law_written)) ∧ mg "_law_written" = some (.ref f) ∧ PySem.W.keepIn K (.ref f) = true ∧ L2.Binds K fd ["pattern", "date", "minute"] [] := by
  obtain ⟨f, fd, F, g, bi⟩ := T.d__law_written
  refine ⟨f, fd, ?_, g, F.kp, bi⟩
  refine F.ok sc__law_written (fun vs H Q E h => h.1) (fun cdv A outer s H vs Q E hr h => ?_)
  exact fin_P (mg := mg) (f := m__law_written) (pss_cons (ps_set (i := 3) sc__law_written.nd rfl (by first | exact Or.inl rfl | exact Or.inr rfl) (pe_disp (pps_cons pe_str (pe_ix ix_tup (pv 1) pe_int (fun _ _ => rfl)) (pps_cons pe_str (pe_ix ix_tup (pv 1) pe_int (fun _ _ => rfl)) (pps_cons pe_str (pe_ix ix_tup (pv 1) pe_int (fun _ _ => rfl)) (pps_cons pe_str (pe_op op_fdivW (pv 2) pe_int) (pps_cons pe_str (pe_op op_mod (pe_callTy call_int1 (by rfl) T.m_int (by decide +kernel) (pa_cons (pv 2) pa_nil)) pe_int) pps_nil))))) (by rfl) (by rfl) (fun z => by cases z) (by decide)))
      (pss_cons (ps_set (i := 4) sc__law_written.nd rfl (by first | exact Or.inl rfl | exact Or.inr rfl) pe_str)
      (pss_cons (ps_for PassesOwn.never rfl (pi_str (pv 0)) (pg_name (i := 5) sc__law_written.nd rfl (by first | exact Or.inl rfl | exact Or.inr rfl)) (pss_one (ps_if (pt_cmp (pc_din (hu_of hr) (pv 5) (pv 3))) (pss_cons (ps_set (i := 6) sc__law_written.nd rfl (by first | exact Or.inl rfl | exact Or.inr rfl) (pe_callTy call_strS (by rfl) T.m_str (by decide +kernel) (pa_cons (pe_dget (hu_of hr) (pv 3) (pv 5) (fun _ _ => rfl)) pa_nil)))
      (pss_one (ps_set (i := 4) sc__law_written.nd rfl (by first | exact Or.inl rfl | exact Or.inr rfl) (pe_op op_add_str (pe_op op_add_str (pv 4) (pe_op op_mulS pe_str (pe_op op_sub (pe_ifExp (pt_cmpR op_eq (pv 5) pe_str (nomark _)) pe_int pe_int) (pe_callB call_len_str (by rfl) T.m_len (by decide +kernel) (pa_cons (pv 6) pa_nil))))) (pv 6))))) (pss_one (ps_set (i := 4) sc__law_written.nd rfl (by first | exact Or.inl rfl | exact Or.inr rfl) (pe_op op_add_str (pv 4) (pv 5)))))))
      (pss_one (ps_ret (pv 4)))))) (shs_seq (shs_asg (shg_name 3) (ShF.e (shf_disp (shp_cons (k := Sum.inr "Y") (sh_op Mi.s_ixT (sh_var 1) (sh_int (0))) (shp_cons (k := Sum.inr "M") (sh_op Mi.s_ixT (sh_var 1) (sh_int (1))) (shp_cons (k := Sum.inr "D") (sh_op Mi.s_ixT (sh_var 1) (sh_int (2))) (shp_cons (k := Sum.inr "H") (sh_op Mi.s_fdivW (sh_var 2) (sh_int (60))) (shp_cons (k := Sum.inr "N") (sh_op Mi.s_mod (sh_cb cs_int (sha_cons (sh_var 2) sha_nil)) (sh_int (60))) shp_nil))))) (Nat.le_of_ble_eq_true rfl))))
  (shs_seq (shs_asg (shg_name 4) (sh_str ""))
  (shs_seq (shs_for (shi_str (sh_var 0)) (shg_name 5) (shs_if (sht_test (sh_din (sh_var 5) (sh_var 3))) (shs_seq (shs_asg (shg_name 6) (sh_cb cs_strS (sha_cons (sh_get (sh_var 3) (sh_var 5)) sha_nil)))
  (shs_asg (shg_name 4) (sh_op Mi.s_addS (sh_op Mi.s_addS (sh_var 4) (sh_op Mi.s_mulS (sh_str "0") (sh_op Mi.s_sub (sh_if (sht_test (sh_op Mi.s_eq (sh_var 5) (sh_str "Y"))) (sh_int (4)) (sh_int (2))) (sh_cb cs_lenS (sha_cons (sh_var 6) sha_nil))))) (sh_var 6)))) (shs_asg (shg_name 4) (sh_op Mi.s_addS (sh_var 4) (sh_var 5)))))
  (shs_ret (sh_var 4))))) h (by decide)
theorem ok__is_leap (T : Txt w K mg) : ∃ (f : Addr) (fd : FuncData), FnOk P w K mg base CX0 1 f fd ["calendar", "year"] (spP K mg 2 (runP 2 m__is_leap)) ∧ mg "_is_leap" = some (.ref f) ∧ PySem.W.keepIn K (.ref f) = true ∧ L2.Binds K fd ["calendar", "year"] [] := by
  obtain ⟨f, fd, F, g, bi⟩ := T.d__is_leap
  refine ⟨f, fd, ?_, g, F.kp, bi⟩
  refine F.ok sc__is_leap (fun vs H Q E h => h.1) (fun cdv A outer s H vs Q E hr h => ?_)
  exact fin_P (mg := mg) (f := m__is_leap) (pss_cons (ps_if (PW.pt (pw_and (pt_cmpR op_eq (pv 0) pe_str (nomark _)) (pw_and1 (pt_cmpR op_eq (pe_op op_mod (pv 1) pe_int) pe_int (nomark _))))) (pss_one (ps_ret (pe_cmpR op_eq (pe_op op_mod (pv 1) pe_int) pe_int (nomark _)))) pss_nil)
      (pss_one (ps_ret (pe_cmpR op_eq (pe_op op_mod (pv 1) pe_int) pe_int (nomark _))))) (shs_seq (shs_if (sht_and (sht_test (sh_op Mi.s_eq (sh_var 0) (sh_str "gregorian"))) (sht_test (sh_op Mi.s_eq (sh_op Mi.s_mod (sh_var 1) (sh_int (100))) (sh_int (0))))) (shs_ret (sh_op Mi.s_eq (sh_op Mi.s_mod (sh_var 1) (sh_int (400))) (sh_int (0)))) shs_next)
  (shs_ret (sh_op Mi.s_eq (sh_op Mi.s_mod (sh_var 1) (sh_int (4))) (sh_int (0))))) h (by decide)
theorem ok_months_of (T : Txt w K mg) : ∃ (f : Addr) (fd : FuncData), FnOk P w K mg base CX0 2 f fd ["calendar", "year"] (spP K mg 2 (runP 3 m_months_of)) ∧ mg "months_of" = some (.ref f) ∧ PySem.W.keepIn K (.ref f) = true ∧ L2.Binds K fd ["calendar", "year"] [] := by
  obtain ⟨f, fd, F, g, bi⟩ := T.d_months_of
  obtain ⟨a_MONTHS, c_MONTHS, r_MONTHS⟩ := T.c_MONTHS
  obtain ⟨a_LEAP_MONTHS, c_LEAP_MONTHS, r_LEAP_MONTHS⟩ := T.c_LEAP_MONTHS
  obtain ⟨f__is_leap, fd__is_leap, G__is_leap, g__is_leap, kp__is_leap, b__is_leap⟩ := ok__is_leap (P := P) (w := w) (base := base) T
  refine ⟨f, fd, ?_, g, F.kp, bi⟩
  refine F.ok sc_months_of (fun vs H Q E h => h.1) (fun cdv A outer s H vs Q E hr h => ?_)
  exact fin_P (mg := mg) (f := m_months_of) (pss_cons (ps_if (pt_val (pe_callB call_isi (by rfl) T.m_isinstance (by decide +kernel) (pa_cons (pv 0) (pa_cons (pe_bltn (v := .ty "tuple") (by rfl) T.m_tuple (by decide +kernel) rfl) pa_nil)))) (pss_cons (ps_set (i := 2) sc_months_of.nd rfl (by first | exact Or.inl rfl | exact Or.inr rfl) (pe_ix ix_tup (pv 0) pe_int (fun _ _ => rfl)))
      (pss_one (ps_ret (pe_ix ix_tup (pv 2) (pe_op op_mod (pe_op op_sub (pv 1) pe_int) (pe_callB call_len_seq (by rfl) T.m_len (by decide +kernel) (pa_cons (pv 2) pa_nil))) (fun _ _ => rfl))))) pss_nil)
      (pss_cons (ps_if (pt_val (pe_call G__is_leap (hr.mono (by omega)) (by rfl) g__is_leap kp__is_leap b__is_leap .nil pass0 (pa_cons (pv 0) (pa_cons (pv 1) pa_nil)))) (pss_one (ps_ret (pe_glob (v := .ref a_LEAP_MONTHS) rfl c_LEAP_MONTHS rfl))) pss_nil)
      (pss_one (ps_ret (pe_glob (v := .ref a_MONTHS) rfl c_MONTHS rfl))))) (shs_seq (shs_if (sht_B (sh_isi (sh_var 0))) (shs_seq (shs_asg (shg_name 2) (sh_op Mi.s_ixT (sh_var 0) (sh_int (1))))
  (shs_ret (sh_op Mi.s_ixT (sh_var 2) (sh_op Mi.s_mod (sh_op Mi.s_sub (sh_var 1) (sh_int (1))) (sh_cb cs_len (sha_cons (sh_var 2) sha_nil)))))) shs_next)
  (shs_seq (shs_if (sht_B (sh_call (sha_cons (sh_var 0) (sha_cons (sh_var 1) sha_nil)) rfl)) (shs_ret (sh_c r_LEAP_MONTHS)) shs_next)
  (shs_ret (sh_c r_MONTHS)))) h (by decide)
theorem ok_date_fault (T : Txt w K mg) : ∃ (f : Addr) (fd : FuncData), FnOk P w K mg base CX0 3 f fd ["calendar", "date"] (spP K mg 2 (runP 6 m_date_fault)) ∧ mg "date_fault" = some (.ref f) ∧ PySem.W.keepIn K (.ref f) = true ∧ L2.Binds K fd ["calendar", "date"] [] := by
  obtain ⟨f, fd, F, g, bi⟩ := T.d_date_fault
  obtain ⟨f_months_of, fd_months_of, G_months_of, g_months_of, kp_months_of, b_months_of⟩ := ok_months_of (P := P) (w := w) (base := base) T
  refine ⟨f, fd, ?_, g, F.kp, bi⟩
  refine F.ok sc_date_fault (fun vs H Q E h => h.1) (fun cdv A outer s H vs Q E hr h => ?_)
  exact fin_P (mg := mg) (f := m_date_fault) (pss_cons (ps_asg (pv 1) (pg_tup (by rfl) (pgs_cons (pg_name (i := 2) sc_date_fault.nd rfl (by first | exact Or.inl rfl | exact Or.inr rfl)) (pgs_cons (pg_name (i := 3) sc_date_fault.nd rfl (by first | exact Or.inl rfl | exact Or.inr rfl)) (pgs_cons (pg_name (i := 4) sc_date_fault.nd rfl (by first | exact Or.inl rfl | exact Or.inr rfl)) pgs_nil)))))
      (pss_cons (ps_set (i := 5) sc_date_fault.nd rfl (by first | exact Or.inl rfl | exact Or.inr rfl) (pe_call G_months_of (hr.mono (by omega)) (by rfl) g_months_of kp_months_of b_months_of .nil pass0 (pa_cons (pv 0) (pa_cons (pv 2) pa_nil))))
      (pss_cons (ps_if (pt_not (pt_chain op_le op_le pe_int (pv 3) (pe_callB call_len_seq (by rfl) T.m_len (by decide +kernel) (pa_cons (pv 5) pa_nil)))) (pss_one (ps_ret pe_str)) pss_nil)
      (pss_cons (ps_if (pt_not (pt_chain op_le op_le pe_int (pv 4) (pe_ix ix_tup (pv 5) (pe_op op_sub (pv 3) pe_int) (fun _ _ => rfl)))) (pss_one (ps_ret pe_str)) pss_nil)
      (pss_one (ps_ret pe_str)))))) (shs_seq (shs_asg (shg_tup (shgs_cons (shg_name 2) (shgs_cons (shg_name 3) (shgs_cons (shg_name 4) shgs_nil)))) (sh_var 1))
  (shs_seq (shs_asg (shg_name 5) (sh_call (sha_cons (sh_var 0) (sha_cons (sh_var 2) sha_nil)) rfl))
  (shs_seq (shs_if (sht_not (sht_test (sh_chain c_le s_le (sh_int (1)) (sh_var 3) (sh_cb cs_len (sha_cons (sh_var 5) sha_nil))))) (shs_ret (sh_str "month")) shs_next)
  (shs_seq (shs_if (sht_not (sht_test (sh_chain c_le s_le (sh_int (1)) (sh_var 4) (sh_op Mi.s_ixT (sh_var 5) (sh_op Mi.s_sub (sh_var 3) (sh_int (1))))))) (shs_ret (sh_str "day")) shs_next)
  (shs_ret (sh_str "")))))) h (by decide)
theorem ok__length_of (T : Txt w K mg) : ∃ (f : Addr) (fd : FuncData), FnOk P w K mg base CX0 1 f fd ["years"] (spP K mg 1 (runP 2 m__length_of)) ∧ mg "_length_of" = some (.ref f) ∧ PySem.W.keepIn K (.ref f) = true ∧ L2.Binds K fd ["years"] [] := by
  obtain ⟨f, fd, F, g, bi⟩ := T.d__length_of
  refine ⟨f, fd, ?_, g, F.kp, bi⟩
  refine F.ok sc__length_of (fun vs H Q E h => h.1) (fun cdv A outer s H vs Q E hr h => ?_)
  exact fin_P (mg := mg) (f := m__length_of) (pss_one (ps_ret (pe_callB (cr_sum rfl) (by rfl) T.m_sum (by decide +kernel) (pa_cons (pe_lc (own := [("lengths", 1)]) (g := gName 1) (tt := tYes) (by rfl) sc__length_of.nd (pi_tup (pv 0)) (blkOk_by (own := [("lengths", 1)]) (N := ["years", "lengths"]) (sc := defScope s__length_of) (by decide +kernel)) (fun _ _ _ _ _ => (pg_name (i := 1) sc__length_of.nd rfl (by first | exact Or.inl rfl | exact Or.inr rfl))) (fun _ _ _ _ _ => pts_nil) (fun _ _ _ _ _ => (pe_callB (r := rSumT K) (cr_sumT rfl) (by rfl) T.m_sum (by decide +kernel) (pa_cons (pv 1) pa_nil)))) pa_nil)))) (shs_ret (sh_cb cs_sum (sha_cons (ShF.e (shf_lc (shi_tup (sh_var 0)) (shg_name 1) (by decide) sht_yes (sh_cb cs_sumT (sha_cons (sh_var 1) sha_nil)))) sha_nil))) h (by decide)
theorem ok_year_start (T : Txt w K mg) : ∃ (f : Addr) (fd : FuncData), FnOk P w K mg base CX0 2 f fd ["calendar", "year"] (spP K mg 2 (runP 7 m_year_start)) ∧ mg "year_start" = some (.ref f) ∧ PySem.W.keepIn K (.ref f) = true ∧ L2.Binds K fd ["calendar", "year"] [] := by
  obtain ⟨f, fd, F, g, bi⟩ := T.d_year_start
  obtain ⟨f__length_of, fd__length_of, G__length_of, g__length_of, kp__length_of, b__length_of⟩ := ok__length_of (P := P) (w := w) (base := base) T
  refine ⟨f, fd, ?_, g, F.kp, bi⟩
  refine F.ok sc_year_start (fun vs H Q E h => h.1) (fun cdv A outer s H vs Q E hr h => ?_)
  exact fin_P (mg := mg) (f := m_year_start) (pss_cons (ps_set (i := 2) sc_year_start.nd rfl (by first | exact Or.inl rfl | exact Or.inr rfl) (pe_op op_sub (pv 1) pe_int))
      (pss_cons (ps_if (pt_cmpR (op_eqD hr.units) (pv 0) pe_str (nomark _)) (pss_one (ps_ret (pe_op op_add (pe_op op_sub (pe_op op_add (pe_op op_add pe_int (pe_op op_mul pe_int (pv 2))) (pe_op op_fdivW (pv 2) pe_int)) (pe_op op_fdivW (pv 2) pe_int)) (pe_op op_fdivW (pv 2) pe_int)))) pss_nil)
      (pss_cons (ps_if (pt_cmpR (op_eqD hr.units) (pv 0) pe_str (nomark _)) (pss_one (ps_ret (pe_op op_add (pe_op op_add (pe_un un_neg pe_int) (pe_op op_mul pe_int (pv 2))) (pe_op op_fdivW (pv 2) pe_int)))) pss_nil)
      (pss_cons (ps_asg (pv 0) (pg_tup (by rfl) (pgs_cons (pg_name (i := 3) sc_year_start.nd rfl (by first | exact Or.inl rfl | exact Or.inr rfl)) (pgs_cons (pg_name (i := 4) sc_year_start.nd rfl (by first | exact Or.inl rfl | exact Or.inr rfl)) pgs_nil))))
      (pss_cons (ps_set (i := 5) sc_year_start.nd rfl (by first | exact Or.inl rfl | exact Or.inr rfl) (pe_op op_fdivW (pv 2) (pe_callB call_len_seq (by rfl) T.m_len (by decide +kernel) (pa_cons (pv 4) pa_nil))))
      (pss_cons (ps_set (i := 6) sc_year_start.nd rfl (by first | exact Or.inl rfl | exact Or.inr rfl) (pe_slice sl_tupA (pv 4) po_none (po_some (pe_op op_mod (pv 2) (pe_callB call_len_seq (by rfl) T.m_len (by decide +kernel) (pa_cons (pv 4) pa_nil))))))
      (pss_one (ps_ret (pe_op op_add (pe_op op_add (pv 3) (pe_op op_mul (pv 5) (pe_call G__length_of (hr.mono (by omega)) (by rfl) g__length_of kp__length_of b__length_of .nil pass0 (pa_cons (pv 4) pa_nil)))) (pe_call G__length_of (hr.mono (by omega)) (by rfl) g__length_of kp__length_of b__length_of .nil pass0 (pa_cons (pv 6) pa_nil))))))))))) (shs_seq (shs_asg (shg_name 2) (sh_op Mi.s_sub (sh_var 1) (sh_int (1))))
  (shs_seq (shs_if (sht_test (sh_op Mi.s_eqD (sh_var 0) (sh_str "gregorian"))) (shs_ret (sh_op Mi.s_add (sh_op Mi.s_sub (sh_op Mi.s_add (sh_op Mi.s_add (sh_int (1)) (sh_op Mi.s_mul (sh_int (365)) (sh_var 2))) (sh_op Mi.s_fdivW (sh_var 2) (sh_int (4)))) (sh_op Mi.s_fdivW (sh_var 2) (sh_int (100)))) (sh_op Mi.s_fdivW (sh_var 2) (sh_int (400))))) shs_next)
  (shs_seq (shs_if (sht_test (sh_op Mi.s_eqD (sh_var 0) (sh_str "julian"))) (shs_ret (sh_op Mi.s_add (sh_op Mi.s_add (sh_un s_neg (sh_int (1))) (sh_op Mi.s_mul (sh_int (365)) (sh_var 2))) (sh_op Mi.s_fdivW (sh_var 2) (sh_int (4))))) shs_next)
  (shs_seq (shs_asg (shg_tup (shgs_cons (shg_name 3) (shgs_cons (shg_name 4) shgs_nil))) (sh_var 0))
  (shs_seq (shs_asg (shg_name 5) (sh_op Mi.s_fdivW (sh_var 2) (sh_cb cs_len (sha_cons (sh_var 4) sha_nil))))
  (shs_seq (shs_asg (shg_name 6) (sh_slT (sh_var 4) sho_none (sho_some (sh_op Mi.s_mod (sh_var 2) (sh_cb cs_len (sha_cons (sh_var 4) sha_nil))))))
  (shs_ret (sh_op Mi.s_add (sh_op Mi.s_add (sh_var 3) (sh_op Mi.s_mul (sh_var 5) (sh_call (sha_cons (sh_var 4) sha_nil) rfl))) (sh_call (sha_cons (sh_var 6) sha_nil) rfl))))))))) h (by decide)
theorem ok_month_start (T : Txt w K mg) : ∃ (f : Addr) (fd : FuncData), FnOk P w K mg base CX0 3 f fd ["calendar", "year", "month"] (spP K mg 3 (runP 3 m_month_start)) ∧ mg "month_start" = some (.ref f) ∧ PySem.W.keepIn K (.ref f) = true ∧ L2.Binds K fd ["calendar", "year", "month"] [] := by
  obtain ⟨f, fd, F, g, bi⟩ := T.d_month_start
  obtain ⟨f_year_start, fd_year_start, G_year_start, g_year_start, kp_year_start, b_year_start⟩ := ok_year_start (P := P) (w := w) (base := base) T
  obtain ⟨f_months_of, fd_months_of, G_months_of, g_months_of, kp_months_of, b_months_of⟩ := ok_months_of (P := P) (w := w) (base := base) T
  refine ⟨f, fd, ?_, g, F.kp, bi⟩
  refine F.ok sc_month_start (fun vs H Q E h => h.1) (fun cdv A outer s H vs Q E hr h => ?_)
  exact fin_P (mg := mg) (f := m_month_start) (pss_one (ps_ret (pe_op op_add (pe_call G_year_start (hr.mono (by omega)) (by rfl) g_year_start kp_year_start b_year_start .nil pass0 (pa_cons (pv 0) (pa_cons (pv 1) pa_nil))) (pe_callB (cr_sumT rfl) (by rfl) T.m_sum (by decide +kernel) (pa_cons (pe_slice sl_tupA (pe_call G_months_of (hr.mono (by omega)) (by rfl) g_months_of kp_months_of b_months_of .nil pass0 (pa_cons (pv 0) (pa_cons (pv 1) pa_nil))) po_none (po_some (pe_op op_sub (pv 2) pe_int))) pa_nil))))) (shs_ret (sh_op Mi.s_add (sh_call (sha_cons (sh_var 0) (sha_cons (sh_var 1) sha_nil)) rfl) (sh_cb cs_sumT (sha_cons (sh_slT (sh_call (sha_cons (sh_var 0) (sha_cons (sh_var 1) sha_nil)) rfl) sho_none (sho_some (sh_op Mi.s_sub (sh_var 2) (sh_int (1))))) sha_nil)))) h (by decide)
theorem ok_day_of (T : Txt w K mg) : ∃ (f : Addr) (fd : FuncData), FnOk P w K mg base (L2.CX P w) 4 f fd ["calendar", "date"] (spP K mg 2 (runP 6 m_day_of)) ∧ mg "day_of" = some (.ref f) ∧ PySem.W.keepIn K (.ref f) = true ∧ L2.Binds K fd ["calendar", "date"] [] := by
  obtain ⟨f, fd, F, g, bi⟩ := T.d_day_of
  obtain ⟨C_DateError, e_DateError⟩ := T.x_DateError
  obtain ⟨f_DateError, fd_DateError, i_DateError, t_DateError, G_DateError, b_DateError⟩ := ok_DateError__init (P := P) (w := w) (base := base) e_DateError
  obtain ⟨tok_YEAR_LIMIT, cYEAR_LIMIT⟩ := T.c_YEAR_LIMIT
  obtain ⟨f_date_fault, fd_date_fault, G_date_fault, g_date_fault, kp_date_fault, b_date_fault⟩ := ok_date_fault (P := P) (w := w) (base := base) T
  obtain ⟨f_month_start, fd_month_start, G_month_start, g_month_start, kp_month_start, b_month_start⟩ := ok_month_start (P := P) (w := w) (base := base) T
  refine ⟨f, fd, ?_, g, F.kp, bi⟩
  refine F.okX sc_day_of (fun vs H Q E h => h.1) (fun cdv A outer s H vs Q E hr h => ?_)
  exact fin_P (mg := mg) (f := m_day_of) (pss_cons (ps_asg (pv 1) (pg_tup (by rfl) (pgs_cons (pg_name (i := 2) sc_day_of.nd rfl (by first | exact Or.inl rfl | exact Or.inr rfl)) (pgs_cons (pg_name (i := 3) sc_day_of.nd rfl (by first | exact Or.inl rfl | exact Or.inr rfl)) (pgs_cons (pg_name (i := 4) sc_day_of.nd rfl (by first | exact Or.inl rfl | exact Or.inr rfl)) pgs_nil)))))
      (pss_cons (ps_if (pt_not (pt_chain op_le op_le (pe_un un_neg (pe_glob (v := .int (10000)) rfl cYEAR_LIMIT ⟨_, rfl⟩)) (pv 2) (pe_glob (v := .int (10000)) rfl cYEAR_LIMIT ⟨_, rfl⟩))) (pss_one (ps_raise rfl (takes_of rfl rfl rfl rfl) (pmk_oex e_DateError.T i_DateError t_DateError G_DateError (hr.mono (by omega)) b_DateError .nil pass0 (by rfl) e_DateError.gC (pa_cons pe_str pa_nil)))) pss_nil)
      (pss_cons (ps_set (i := 5) sc_day_of.nd rfl (by first | exact Or.inl rfl | exact Or.inr rfl) (pe_call G_date_fault (hr.mono (by omega)) (by rfl) g_date_fault kp_date_fault b_date_fault .nil pass0 (pa_cons (pv 0) (pa_cons (pv 1) pa_nil))))
      (pss_cons (ps_if (pt_cmpR op_ne (pv 5) pe_str (nomark _)) (pss_one (ps_raise rfl (takes_of rfl rfl rfl rfl) (pmk_oex e_DateError.T i_DateError t_DateError G_DateError (hr.mono (by omega)) b_DateError .nil pass0 (by rfl) e_DateError.gC (pa_cons (pv 5) pa_nil)))) pss_nil)
      (pss_one (ps_ret (pe_op op_sub (pe_op op_add (pe_call G_month_start (hr.mono (by omega)) (by rfl) g_month_start kp_month_start b_month_start .nil pass0 (pa_cons (pv 0) (pa_cons (pv 2) (pa_cons (pv 3) pa_nil)))) (pv 4)) pe_int))))))) (shs_seq (shs_asg (shg_tup (shgs_cons (shg_name 2) (shgs_cons (shg_name 3) (shgs_cons (shg_name 4) shgs_nil)))) (sh_var 1))
  (shs_seq (shs_if (sht_not (sht_test (sh_chain c_le s_le (sh_un s_neg (sh_int (10000))) (sh_var 2) (sh_int (10000))))) (shs_raise (sha_cons (sh_str "year") sha_nil) rfl (by decide) e_DateError.gC e_DateError.T e_DateError.no) shs_next)
  (shs_seq (shs_asg (shg_name 5) (sh_call (sha_cons (sh_var 0) (sha_cons (sh_var 1) sha_nil)) rfl))
  (shs_seq (shs_if (sht_test (sh_op Mi.s_ne (sh_var 5) (sh_str ""))) (shs_raise (sha_cons (sh_var 5) sha_nil) rfl (by decide) e_DateError.gC e_DateError.T e_DateError.no) shs_next)
  (shs_ret (sh_op Mi.s_sub (sh_op Mi.s_add (sh_call (sha_cons (sh_var 0) (sha_cons (sh_var 2) (sha_cons (sh_var 3) sha_nil))) rfl) (sh_var 4)) (sh_int (1)))))))) h (by decide)
theorem ok__is_date (T : Txt w K mg) : ∃ (f : Addr) (fd : FuncData), FnOk P w K mg base CX0 5 f fd ["calendar", "date"] (spP K mg 2 (runP 2 m__is_date)) ∧ mg "_is_date" = some (.ref f) ∧ PySem.W.keepIn K (.ref f) = true ∧ L2.Binds K fd ["calendar", "date"] [] := by
  obtain ⟨f, fd, F, g, bi⟩ := T.d__is_date
  obtain ⟨C_DateError, e_DateError⟩ := T.x_DateError
  obtain ⟨f_day_of, fd_day_of, G_day_of, g_day_of, kp_day_of, b_day_of⟩ := ok_day_of (P := P) (w := w) (base := base) T
  refine ⟨f, fd, ?_, g, F.kp, bi⟩
  refine F.ok sc__is_date (fun vs H Q E h => h.1) (fun cdv A outer s H vs Q E hr h => ?_)
  exact fin_P (mg := mg) (f := m__is_date) (pss_cons (ps_try_only rfl rfl ⟨rfl, by decide, Or.inl e_DateError.gC⟩ takes0 (fun W pn xe tk po => (pss_one (ps_expr (pe_callS G_day_of (hr.mono (by omega)) (by rfl) g_day_of kp_day_of b_day_of (fun σ => passAt tk σ) (pa_cons (pv 0) (pa_cons (pv 1) pa_nil)))))) (fun a oe cls d pn hz hf => (pss_one (ps_ret pe_bl))))
      (pss_one (ps_ret pe_bl))) (shs_seq (shs_tryO (fun W => (shs_drop (sh_callX (sha_cons (sh_var 0) (sha_cons (sh_var 1) sha_nil)) rfl (fun _ _ _ _ h => h)))) e_DateError.gC e_DateError.te (shs_ret (sh_bl false)))
  (shs_ret (sh_bl true))) h (by decide)
theorem ok__fits (T : Txt w K mg) : ∃ (f : Addr) (fd : FuncData), FnOk P w K mg base CX0 1 f fd ["letter", "written"] (spP K mg 2 (runP 2 m__fits)) ∧ mg "_fits" = some (.ref f) ∧ PySem.W.keepIn K (.ref f) = true ∧ L2.Binds K fd ["letter", "written"] [] := by
  obtain ⟨f, fd, F, g, bi⟩ := T.d__fits
  obtain ⟨a_DIGITS, c_DIGITS, r_DIGITS⟩ := T.c_DIGITS
  refine ⟨f, fd, ?_, g, F.kp, bi⟩
  refine F.ok sc__fits (fun vs H Q E h => h.1) (fun cdv A outer s H vs Q E hr h => ?_)
  exact fin_P (mg := mg) (f := m__fits) (pss_cons (ps_if (pt_cmp (pc_kin rfl c_DIGITS r_DIGITS (pv 0))) (pss_one (ps_ret (pe_chain op_le_str op_le_str pe_str (pv 1) pe_str))) pss_nil)
      (pss_one (ps_ret (pe_cmpR op_eq (pv 1) (pv 0) (nomark _))))) (shs_seq (shs_if (sht_test (sh_kin (sh_var 0))) (shs_ret (sh_chain c_leS s_leS (sh_str "0") (sh_var 1) (sh_str "9"))) shs_next)
  (shs_ret (sh_op Mi.s_eq (sh_var 1) (sh_var 0)))) h (by decide)
theorem ok_read (T : Txt w K mg) : ∃ (f : Addr) (fd : FuncData), FnOk P w K mg base (L2.CX P w) 6 f fd ["calendar", "pattern", "text"] (spP K mg 3 (runP 9 m_read)) ∧ mg "read" = some (.ref f) ∧ PySem.W.keepIn K (.ref f) = true ∧ L2.Binds K fd ["calendar", "pattern", "text"] [] := by
  obtain ⟨f, fd, F, g, bi⟩ := T.d_read
  obtain ⟨C_PatternError, e_PatternError⟩ := T.x_PatternError
  obtain ⟨f_PatternError, fd_PatternError, i_PatternError, t_PatternError, G_PatternError, b_PatternError⟩ := ok_PatternError__init (P := P) (w := w) (base := base) e_PatternError
  obtain ⟨a_DIGITS, c_DIGITS, r_DIGITS⟩ := T.c_DIGITS
  obtain ⟨f__is_date, fd__is_date, G__is_date, g__is_date, kp__is_date, b__is_date⟩ := ok__is_date (P := P) (w := w) (base := base) T
  obtain ⟨f__fits, fd__fits, G__fits, g__fits, kp__fits, b__fits⟩ := ok__fits (P := P) (w := w) (base := base) T
  refine ⟨f, fd, ?_, g, F.kp, bi⟩
  refine F.okX sc_read (fun vs H Q E h => h.1) (fun cdv A outer s H vs Q E hr h => ?_)
  exact fin_P (mg := mg) (f := m_read) (pss_cons (ps_set (i := 3) sc_read.nd rfl (by first | exact Or.inl rfl | exact Or.inr rfl) (pe_disp (pps_cons pe_str pe_int (pps_cons pe_str pe_int pps_nil)) (by rfl) (by rfl) (fun z => by cases z) (by decide)))
      (pss_cons (ps_set (i := 4) sc_read.nd rfl (by first | exact Or.inl rfl | exact Or.inr rfl) pe_int)
      (pss_cons (ps_for (passes_of rfl) rfl (pi_str (pv 1)) (pg_name (i := 5) sc_read.nd rfl (by first | exact Or.inl rfl | exact Or.inr rfl)) (pss_cons (ps_set (i := 6) sc_read.nd rfl (by first | exact Or.inl rfl | exact Or.inr rfl) (pe_op op_add (pv 4) (pe_kgetI rfl c_DIGITS r_DIGITS (pv 5) pe_int ⟨rfl, rfl, rfl, rfl⟩)))
      (pss_cons (ps_for (passes_of rfl) rfl (pi_range2 (by rfl) T.m_range (pa_cons (pv 4) (pa_cons (pv 6) pa_nil))) (pg_name (i := 7) sc_read.nd rfl (by first | exact Or.inl rfl | exact Or.inr rfl)) (pss_one (ps_if (PW.pt (pw_or (pt_cmpR op_eq (pv 7) (pe_callB call_len_str (by rfl) T.m_len (by decide +kernel) (pa_cons (pv 2) pa_nil)) (nomark _)) (pw_or1 (pt_not (pt_val (pe_call G__fits (hr.mono (by omega)) (by rfl) g__fits kp__fits b__fits .nil pass0 (pa_cons (pv 5) (pa_cons (pe_ix ix_str (pv 2) (pv 7) (fun _ _ => rfl)) pa_nil)))))))) (pss_one (ps_raise rfl (takes_of rfl rfl rfl rfl) (pmk_oex e_PatternError.T i_PatternError t_PatternError G_PatternError (hr.mono (by omega)) b_PatternError .nil pass0 (by rfl) e_PatternError.gC (pa_cons (pv 7) pa_nil)))) pss_nil)))
      (pss_cons (ps_if (pt_cmp (pc_kin rfl c_DIGITS r_DIGITS (pv 5))) (pss_one (ps_dput (hu_of hr) (pv 3) (pv 5) (pe_callTy call_int_str (by rfl) T.m_int (by decide +kernel) (pa_cons (pe_slice sl_str (pv 2) (po_some (pv 4)) (po_some (pv 6))) pa_nil)) rfl)) pss_nil)
      (pss_one (ps_set (i := 4) sc_read.nd rfl (by first | exact Or.inl rfl | exact Or.inr rfl) (pv 6)))))))
      (pss_cons (ps_if (pt_cmpR op_gt (pe_callB call_len_str (by rfl) T.m_len (by decide +kernel) (pa_cons (pv 2) pa_nil)) (pv 4) (nomark _)) (pss_one (ps_raise rfl (takes_of rfl rfl rfl rfl) (pmk_oex e_PatternError.T i_PatternError t_PatternError G_PatternError (hr.mono (by omega)) b_PatternError .nil pass0 (by rfl) e_PatternError.gC (pa_cons (pv 4) pa_nil)))) pss_nil)
      (pss_cons (ps_set (i := 8) sc_read.nd rfl (by first | exact Or.inl rfl | exact Or.inr rfl) (pe_tup (pa_cons (pe_dget (hu_of hr) (pv 3) pe_str (fun _ _ => rfl)) (pa_cons (pe_dget (hu_of hr) (pv 3) pe_str (fun _ _ => rfl)) (pa_cons (pe_dget (hu_of hr) (pv 3) pe_str (fun _ _ => rfl)) pa_nil)))))
      (pss_cons (ps_if (PW.pt (pw_or (pt_cmpR op_gt (pe_dget (hu_of hr) (pv 3) pe_str (fun _ _ => rfl)) pe_int (nomark _)) (pw_or (pt_cmpR op_gt (pe_dget (hu_of hr) (pv 3) pe_str (fun _ _ => rfl)) pe_int (nomark _)) (pw_or1 (pt_not (pt_val (pe_call G__is_date (hr.mono (by omega)) (by rfl) g__is_date kp__is_date b__is_date .nil pass0 (pa_cons (pv 0) (pa_cons (pv 8) pa_nil))))))))) (pss_one (ps_raise rfl (takes_of rfl rfl rfl rfl) (pmk_oex e_PatternError.T i_PatternError t_PatternError G_PatternError (hr.mono (by omega)) b_PatternError .nil pass0 (by rfl) e_PatternError.gC (pa_cons (pe_un un_neg pe_int) pa_nil)))) pss_nil)
      (pss_one (ps_ret (pe_tup (pa_cons (pv 8) (pa_cons (pe_op op_add (pe_op op_mul pe_int (pe_dget (hu_of hr) (pv 3) pe_str (fun _ _ => rfl))) (pe_dget (hu_of hr) (pv 3) pe_str (fun _ _ => rfl))) pa_nil))))))))))) (shs_seq (shs_setO (shf_disp (shp_cons (k := Sum.inr "H") (sh_int (0)) (shp_cons (k := Sum.inr "N") (sh_int (0)) shp_nil)) (Nat.le_of_ble_eq_true rfl)))
  (shs_seq (shs_asg (shg_name 4) (sh_int (0)))
  (shs_seq (shs_for (shi_str (sh_var 1)) (shg_name 5) (shs_seq (shs_asg (shg_name 6) (sh_op Mi.s_add (sh_var 4) (sh_kgI (sh_var 5) (sh_int (1)))))
  (shs_seq (shs_for (shi_rng2 (sha_cons (sh_var 4) (sha_cons (sh_var 6) sha_nil))) (shg_name 7) (shs_if (sht_or (sht_test (sh_op Mi.s_eq (sh_var 7) (sh_cb cs_lenS (sha_cons (sh_var 2) sha_nil)))) (sht_not (sht_B (sh_call (sha_cons (sh_var 5) (sha_cons (sh_op Mi.s_ixS (sh_var 2) (sh_var 7)) sha_nil)) rfl)))) (shs_raise (sha_cons (sh_var 7) sha_nil) rfl (by decide) e_PatternError.gC e_PatternError.T e_PatternError.no) shs_next))
  (shs_seq (shs_if (sht_test (sh_kin (sh_var 5))) (shs_putO (sh_var 5) (sh_cb cs_intS (sha_cons (sh_slS (sh_var 2) (sho_some (sh_var 4)) (sho_some (sh_var 6))) sha_nil))) shs_next)
  (shs_asg (shg_name 4) (sh_var 6))))))
  (shs_seq (shs_if (sht_test (sh_op Mi.s_gt (sh_cb cs_lenS (sha_cons (sh_var 2) sha_nil)) (sh_var 4))) (shs_raise (sha_cons (sh_var 4) sha_nil) rfl (by decide) e_PatternError.gC e_PatternError.T e_PatternError.no) shs_next)
  (shs_seq (shs_asg (shg_name 8) (sh_tup (sha_cons (sh_getV (sh_str "Y")) (sha_cons (sh_getV (sh_str "M")) (sha_cons (sh_getV (sh_str "D")) sha_nil))) (Nat.le_of_ble_eq_true rfl)))
  (shs_seq (shs_if (sht_or (sht_test (sh_op Mi.s_gt (sh_getV (sh_str "H")) (sh_int (23)))) (sht_or (sht_test (sh_op Mi.s_gt (sh_getV (sh_str "N")) (sh_int (59)))) (sht_not (sht_B (sh_call (sha_cons (sh_var 0) (sha_cons (sh_var 8) sha_nil)) rfl))))) (shs_raise (sha_cons (sh_un s_neg (sh_int (1))) sha_nil) rfl (by decide) e_PatternError.gC e_PatternError.T e_PatternError.no) shs_next)
  (shs_ret (sh_tup (sha_cons (sh_var 8) (sha_cons (sh_op Mi.s_add (sh_op Mi.s_mul (sh_int (60)) (sh_getV (sh_str "H"))) (sh_getV (sh_str "N"))) sha_nil)) (Nat.le_of_ble_eq_true rfl))))))))) h (by decide)
theorem ok__law_told (T : Txt w K mg) : ∃ (f : Addr) (fd : FuncData), FnOk P w K mg base CX0 7 f fd ["calendar", "pattern", "text"] (spP K mg 3 (runP 4 m__law_told)) ∧ mg "_law_told" = some (.ref f) ∧ PySem.W.keepIn K (.ref f) = true ∧ L2.Binds K fd ["calendar", "pattern", "text"] [] := by
  obtain ⟨f, fd, F, g, bi⟩ := T.d__law_told
  obtain ⟨C_PatternError, e_PatternError⟩ := T.x_PatternError
  obtain ⟨f_read, fd_read, G_read, g_read, kp_read, b_read⟩ := ok_read (P := P) (w := w) (base := base) T
  refine ⟨f, fd, ?_, g, F.kp, bi⟩
  refine F.ok sc__law_told (fun vs H Q E h => h.1) (fun cdv A outer s H vs Q E hr h => ?_)
  exact fin_P (mg := mg) (f := m__law_told) (pss_one (ps_try_as (i := 3) rfl rfl sc__law_told.nd rfl rfl ⟨rfl, by decide, Or.inl e_PatternError.gC⟩ takes0 (fun W pn xe tk po => (pss_one (ps_ret (pe_callS G_read (hr.mono (by omega)) (by rfl) g_read kp_read b_read (fun σ => passAt tk σ) (pa_cons (pv 0) (pa_cons (pv 1) (pa_cons (pv 2) pa_nil))))))) (fun a oe cls d pn hz hf => (pss_one (ps_ret (pe_xf e_PatternError.xf (e_PatternError.no "at" (by simp)) hz hf (pv 3))))))) (shs_tryF (fun W => (shs_ret (sh_callX (sha_cons (sh_var 0) (sha_cons (sh_var 1) (sha_cons (sh_var 2) sha_nil))) rfl (fun _ _ _ _ h => h)))) e_PatternError.gC e_PatternError.te su_field) h (by decide)
theorem ok__law_read (T : Txt w K mg) : ∃ (f : Addr) (fd : FuncData), FnOk P w K mg base CX0 5 f fd ["calendar", "pattern", "text"] (spP K mg 3 (runP 10 m__law_read)) ∧ mg "_law_read" = some (.ref f) ∧ PySem.W.keepIn K (.ref f) = true ∧ L2.Binds K fd ["calendar", "pattern", "text"] [] := by
  obtain ⟨f, fd, F, g, bi⟩ := T.d__law_read
  obtain ⟨C_DateError, e_DateError⟩ := T.x_DateError
  obtain ⟨f_day_of, fd_day_of, G_day_of, g_day_of, kp_day_of, b_day_of⟩ := ok_day_of (P := P) (w := w) (base := base) T
  refine ⟨f, fd, ?_, g, F.kp, bi⟩
  refine F.ok sc__law_read (fun vs H Q E h => h.1) (fun cdv A outer s H vs Q E hr h => ?_)
  exact fin_P (mg := mg) (f := m__law_read) (pss_cons (ps_set (i := 3) sc__law_read.nd rfl (by first | exact Or.inl rfl | exact Or.inr rfl) (pe_disp (pps_cons pe_str pe_int (pps_cons pe_str pe_int pps_nil)) (by rfl) (by rfl) (fun z => by cases z) (by decide)))
      (pss_cons (ps_set (i := 4) sc__law_read.nd rfl (by first | exact Or.inl rfl | exact Or.inr rfl) pe_int)
      (pss_cons (ps_for PassesOwn.never rfl (pi_str (pv 1)) (pg_name (i := 5) sc__law_read.nd rfl (by first | exact Or.inl rfl | exact Or.inr rfl)) (pss_cons (ps_set (i := 6) sc__law_read.nd rfl (by first | exact Or.inl rfl | exact Or.inr rfl) (pe_ifExp (pt_cmpR op_eq (pv 5) pe_str (nomark _)) pe_int pe_int))
      (pss_cons (ps_if (pt_cmpR op_notIn_str (pv 5) pe_str (by rfl)) (pss_one (ps_set (i := 6) sc__law_read.nd rfl (by first | exact Or.inl rfl | exact Or.inr rfl) pe_int)) pss_nil)
      (pss_cons (ps_for PassesOwn.never rfl (pi_range2 (by rfl) T.m_range (pa_cons (pv 4) (pa_cons (pe_op op_add (pv 4) (pv 6)) pa_nil))) (pg_name (i := 7) sc__law_read.nd rfl (by first | exact Or.inl rfl | exact Or.inr rfl)) (pss_cons (ps_set (i := 8) sc__law_read.nd rfl (by first | exact Or.inl rfl | exact Or.inr rfl) (pe_and (pe_cmpR op_lt (pv 7) (pe_callB call_len_str (by rfl) T.m_len (by decide +kernel) (pa_cons (pv 2) pa_nil)) (nomark _)) (pe_one (pe_ifExp (pt_cmpR op_in_str (pv 5) pe_str (by rfl)) (pe_cmpR op_in_str (pe_ix ix_str (pv 2) (pv 7) (fun _ _ => rfl)) pe_str (by rfl)) (pe_cmpR op_eq (pe_ix ix_str (pv 2) (pv 7) (fun _ _ => rfl)) (pv 5) (nomark _))))))
      (pss_one (ps_if (pt_not (pt_val (pv 8))) (pss_one (ps_ret (pv 7))) pss_nil))))
      (pss_cons (ps_if (pt_cmpR op_in_str (pv 5) pe_str (by rfl)) (pss_one (ps_dput (hu_of hr) (pv 3) (pv 5) (pe_callTy call_int_str (by rfl) T.m_int (by decide +kernel) (pa_cons (pe_slice sl_str (pv 2) (po_some (pv 4)) (po_some (pe_op op_add (pv 4) (pv 6)))) pa_nil)) rfl)) pss_nil)
      (pss_one (ps_set (i := 4) sc__law_read.nd rfl (by first | exact Or.inl rfl | exact Or.inr rfl) (pe_op op_add (pv 4) (pv 6)))))))))
      (pss_cons (ps_if (pt_cmpR op_lt (pv 4) (pe_callB call_len_str (by rfl) T.m_len (by decide +kernel) (pa_cons (pv 2) pa_nil)) (nomark _)) (pss_one (ps_ret (pv 4))) pss_nil)
      (pss_cons (ps_set (i := 9) sc__law_read.nd rfl (by first | exact Or.inl rfl | exact Or.inr rfl) (pe_tup (pa_cons (pe_dget (hu_of hr) (pv 3) pe_str (fun _ _ => rfl)) (pa_cons (pe_dget (hu_of hr) (pv 3) pe_str (fun _ _ => rfl)) (pa_cons (pe_dget (hu_of hr) (pv 3) pe_str (fun _ _ => rfl)) pa_nil)))))
      (pss_cons (ps_try_only rfl rfl ⟨rfl, by decide, Or.inl e_DateError.gC⟩ takes0 (fun W pn xe tk po => (pss_one (ps_expr (pe_callS G_day_of (hr.mono (by omega)) (by rfl) g_day_of kp_day_of b_day_of (fun σ => passAt tk σ) (pa_cons (pv 0) (pa_cons (pv 9) pa_nil)))))) (fun a oe cls d pn hz hf => (pss_one (ps_ret (pe_un un_neg pe_int)))))
      (pss_one (ps_ret (pe_ifExp (PW.pt (pw_and (pt_cmpR op_lt (pe_dget (hu_of hr) (pv 3) pe_str (fun _ _ => rfl)) pe_int (nomark _)) (pw_and1 (pt_cmpR op_lt (pe_dget (hu_of hr) (pv 3) pe_str (fun _ _ => rfl)) pe_int (nomark _))))) (pe_tup (pa_cons (pv 9) (pa_cons (pe_op op_add (pe_op op_mul pe_int (pe_dget (hu_of hr) (pv 3) pe_str (fun _ _ => rfl))) (pe_dget (hu_of hr) (pv 3) pe_str (fun _ _ => rfl))) pa_nil))) (pe_un un_neg pe_int)))))))))) (shs_seq (shs_setO (shf_disp (shp_cons (k := Sum.inr "H") (sh_int (0)) (shp_cons (k := Sum.inr "N") (sh_int (0)) shp_nil)) (Nat.le_of_ble_eq_true rfl)))
  (shs_seq (shs_asg (shg_name 4) (sh_int (0)))
  (shs_seq (shs_for (shi_str (sh_var 1)) (shg_name 5) (shs_seq (shs_asg (shg_name 6) (sh_if (sht_test (sh_op Mi.s_eq (sh_var 5) (sh_str "Y"))) (sh_int (4)) (sh_int (2))))
  (shs_seq (shs_if (sht_test (sh_op Mi.s_notInS (sh_var 5) (sh_str "YMDHN"))) (shs_asg (shg_name 6) (sh_int (1))) shs_next)
  (shs_seq (shs_for (shi_rng2 (sha_cons (sh_var 4) (sha_cons (sh_op Mi.s_add (sh_var 4) (sh_var 6)) sha_nil))) (shg_name 7) (shs_seq (shs_asg (shg_name 8) (sh_andV (sh_op Mi.s_lt (sh_var 7) (sh_cb cs_lenS (sha_cons (sh_var 2) sha_nil))) (sh_if (sht_test (sh_op Mi.s_inS (sh_var 5) (sh_str "YMDHN"))) (sh_op Mi.s_inS (sh_op Mi.s_ixS (sh_var 2) (sh_var 7)) (sh_str "0123456789")) (sh_op Mi.s_eq (sh_op Mi.s_ixS (sh_var 2) (sh_var 7)) (sh_var 5)))))
  (shs_if (sht_not (sht_B (sh_var 8))) (shs_ret (sh_var 7)) shs_next)))
  (shs_seq (shs_if (sht_test (sh_op Mi.s_inS (sh_var 5) (sh_str "YMDHN"))) (shs_putO (sh_var 5) (sh_cb cs_intS (sha_cons (sh_slS (sh_var 2) (sho_some (sh_var 4)) (sho_some (sh_op Mi.s_add (sh_var 4) (sh_var 6)))) sha_nil))) shs_next)
  (shs_asg (shg_name 4) (sh_op Mi.s_add (sh_var 4) (sh_var 6))))))))
  (shs_seq (shs_if (sht_test (sh_op Mi.s_lt (sh_var 4) (sh_cb cs_lenS (sha_cons (sh_var 2) sha_nil)))) (shs_ret (sh_var 4)) shs_next)
  (shs_seq (shs_asg (shg_name 9) (sh_tup (sha_cons (sh_getV (sh_str "Y")) (sha_cons (sh_getV (sh_str "M")) (sha_cons (sh_getV (sh_str "D")) sha_nil))) (Nat.le_of_ble_eq_true rfl)))
  (shs_seq (shs_tryO (fun W => (shs_drop (sh_callX (sha_cons (sh_var 0) (sha_cons (sh_var 9) sha_nil)) rfl (fun _ _ _ _ h => h)))) e_DateError.gC e_DateError.te (shs_ret (sh_un s_neg (sh_int (1)))))
  (shs_ret (sh_if (sht_and (sht_test (sh_op Mi.s_lt (sh_getV (sh_str "H")) (sh_int (24)))) (sht_test (sh_op Mi.s_lt (sh_getV (sh_str "N")) (sh_int (60))))) (sh_tup (sha_cons (sh_var 9) (sha_cons (sh_op Mi.s_add (sh_op Mi.s_mul (sh_int (60)) (sh_getV (sh_str "H"))) (sh_getV (sh_str "N"))) sha_nil)) (Nat.le_of_ble_eq_true rfl)) (sh_un s_neg (sh_int (1))))))))))) h (by decide)
theorem ok__is_capital_or_digit (T : Txt w K mg) : ∃ (f : Addr) (fd : FuncData), FnOk P w K mg base CX0 1 f fd ["letter"] (spP K mg 1 (runP 1 m__is_capital_or_digit)) ∧ mg "_is_capital_or_digit" = some (.ref f) ∧ PySem.W.keepIn K (.ref f) = true ∧ L2.Binds K fd ["letter"] [] := by
  obtain ⟨f, fd, F, g, bi⟩ := T.d__is_capital_or_digit
  refine ⟨f, fd, ?_, g, F.kp, bi⟩
  refine F.ok sc__is_capital_or_digit (fun vs H Q E h => h.1) (fun cdv A outer s H vs Q E hr h => ?_)
  exact fin_P (mg := mg) (f := m__is_capital_or_digit) (pss_one (ps_ret (pe_or (pe_chain op_le_str op_le_str pe_str (pv 0) pe_str) (pe_one (pe_chain op_le_str op_le_str pe_str (pv 0) pe_str))))) (shs_ret (sh_orV (sh_chain c_leS s_leS (sh_str "A") (sh_var 0) (sh_str "Z")) (sh_chain c_leS s_leS (sh_str "0") (sh_var 0) (sh_str "9")))) h (by decide)
theorem ok_is_pattern (T : Txt w K mg) : ∃ (f : Addr) (fd : FuncData), FnOk P w K mg base CX0 2 f fd ["pattern"] (spP K mg 1 (runP 2 m_is_pattern)) ∧ mg "is_pattern" = some (.ref f) ∧ PySem.W.keepIn K (.ref f) = true ∧ L2.Binds K fd ["pattern"] [] := by
  obtain ⟨f, fd, F, g, bi⟩ := T.d_is_pattern
  obtain ⟨tok_LONGEST, cLONGEST⟩ := T.c_LONGEST
  obtain ⟨a_DIGITS, c_DIGITS, r_DIGITS⟩ := T.c_DIGITS
  obtain ⟨f__is_capital_or_digit, fd__is_capital_or_digit, G__is_capital_or_digit, g__is_capital_or_digit, kp__is_capital_or_digit, b__is_capital_or_digit⟩ := ok__is_capital_or_digit (P := P) (w := w) (base := base) T
  refine ⟨f, fd, ?_, g, F.kp, bi⟩
  refine F.ok sc_is_pattern (fun vs H Q E h => h.1) (fun cdv A outer s H vs Q E hr h => ?_)
  exact fin_P (mg := mg) (f := m_is_pattern) (pss_cons (ps_if (pt_cmpR op_gt (pe_callB call_len_str (by rfl) T.m_len (by decide +kernel) (pa_cons (pv 0) pa_nil)) (pe_glob (v := .int (40)) rfl cLONGEST ⟨_, rfl⟩) (nomark _)) (pss_one (ps_ret pe_bl)) pss_nil)
      (pss_cons (ps_if (pt_cmpR (op_neD hr.units) (pe_lc (own := [("letter", 1)]) (g := gName 1) (tt := tYes) (by rfl) sc_is_pattern.nd (pi_str pe_str) (blkOk_by (own := [("letter", 1)]) (N := ["pattern", "letter"]) (sc := defScope s_is_pattern) (by decide +kernel)) (fun _ _ _ _ _ => (pg_name (i := 1) sc_is_pattern.nd rfl (by first | exact Or.inl rfl | exact Or.inr rfl))) (fun _ _ _ _ _ => pts_nil) (fun _ _ _ _ _ => (pe_m1 PySem.F.slot_str_count PySem.F.type_str_count mt_count (pv 0) (pv 1)))) (pe_lst (pa_cons pe_int (pa_cons pe_int (pa_cons pe_int pa_nil)))) (nomark _)) (pss_one (ps_ret pe_bl)) pss_nil)
      (pss_cons (ps_if (PW.pt (pw_or (pt_cmpR op_gt (pe_m1 PySem.F.slot_str_count PySem.F.type_str_count mt_count (pv 0) pe_str) pe_int (nomark _)) (pw_or1 (pt_cmpR op_gt (pe_m1 PySem.F.slot_str_count PySem.F.type_str_count mt_count (pv 0) pe_str) pe_int (nomark _))))) (pss_one (ps_ret pe_bl)) pss_nil)
      (pss_one (ps_ret (pe_callB (cr_all rfl) (by rfl) T.m_all (by decide +kernel) (pa_cons (pe_lc (own := [("letter", 1)]) (g := gName 1) (tt := tYes) (by rfl) sc_is_pattern.nd (pi_str (pv 0)) (blkOk_by (own := [("letter", 1)]) (N := ["pattern", "letter"]) (sc := defScope s_is_pattern) (by decide +kernel)) (fun _ _ _ _ _ => (pg_name (i := 1) sc_is_pattern.nd rfl (by first | exact Or.inl rfl | exact Or.inr rfl))) (fun _ _ _ _ _ => pts_nil) (fun _ _ _ _ _ => (pe_or (pe_cmp (pc_kin rfl c_DIGITS r_DIGITS (pv 1))) (pe_one (pe_not (pe_call G__is_capital_or_digit (hr.mono (by omega)) (by rfl) g__is_capital_or_digit kp__is_capital_or_digit b__is_capital_or_digit .nil pass0 (pa_cons (pv 1) pa_nil))))))) pa_nil))))))) (shs_seq (shs_if (sht_test (sh_op Mi.s_gt (sh_cb cs_lenS (sha_cons (sh_var 0) sha_nil)) (sh_int (40)))) (shs_ret (sh_bl false)) shs_next)
  (shs_seq (shs_if (sht_test (sh_op Mi.s_neD (ShF.e (shf_lc (shi_str (sh_str "YMD")) (shg_name 1) (by decide) sht_yes (sh_m1 Mi.m_count (sh_var 0) (sh_var 1)))) (ShF.e (shf_lst (sha_cons (sh_int (1)) (sha_cons (sh_int (1)) (sha_cons (sh_int (1)) sha_nil))) (Nat.le_of_ble_eq_true rfl))))) (shs_ret (sh_bl false)) shs_next)
  (shs_seq (shs_if (sht_or (sht_test (sh_op Mi.s_gt (sh_m1 Mi.m_count (sh_var 0) (sh_str "H")) (sh_int (1)))) (sht_test (sh_op Mi.s_gt (sh_m1 Mi.m_count (sh_var 0) (sh_str "N")) (sh_int (1))))) (shs_ret (sh_bl false)) shs_next)
  (shs_ret (sh_cb cs_all (sha_cons (ShF.e (shf_lc (shi_str (sh_var 0)) (shg_name 1) (by decide) sht_yes (sh_orV (sh_kin (sh_var 1)) (sh_notV (sh_call (sha_cons (sh_var 1) sha_nil) rfl))))) sha_nil)))))) h (by decide)
theorem ok_law_of {f : Addr} {fd : FuncData} (T : Txt w K mg) (F : Fun K "law" "law" s_law f fd) (hf : ∀ ns : List Int, ns.length ≤ 63 → runP 11 m_law [scr ns] = .ok (.bool true)) : FnOk P w K mg base CX0 8 f fd ["script"] (Mi.spLaw K) := by
  obtain ⟨f__law_start, fd__law_start, G__law_start, g__law_start, kp__law_start, b__law_start⟩ := ok__law_start (P := P) (w := w) (base := base) T
  obtain ⟨f__law_pick, fd__law_pick, G__law_pick, g__law_pick, kp__law_pick, b__law_pick⟩ := ok__law_pick (P := P) (w := w) (base := base) T
  obtain ⟨f__law_pattern, fd__law_pattern, G__law_pattern, g__law_pattern, kp__law_pattern, b__law_pattern⟩ := ok__law_pattern (P := P) (w := w) (base := base) T
  obtain ⟨f__law_is_pattern, fd__law_is_pattern, G__law_is_pattern, g__law_is_pattern, kp__law_is_pattern, b__law_is_pattern⟩ := ok__law_is_pattern (P := P) (w := w) (base := base) T
  obtain ⟨f__law_draw, fd__law_draw, G__law_draw, g__law_draw, kp__law_draw, b__law_draw⟩ := ok__law_draw (P := P) (w := w) (base := base) T
  obtain ⟨f_write, fd_write, G_write, g_write, kp_write, b_write⟩ := ok_write (P := P) (w := w) (base := base) T
  obtain ⟨f__law_is, fd__law_is, G__law_is, g__law_is, kp__law_is, b__law_is⟩ := ok__law_is (P := P) (w := w) (base := base) T
  obtain ⟨f__law_written, fd__law_written, G__law_written, g__law_written, kp__law_written, b__law_written⟩ := ok__law_written (P := P) (w := w) (base := base) T
  obtain ⟨f__law_told, fd__law_told, G__law_told, g__law_told, kp__law_told, b__law_told⟩ := ok__law_told (P := P) (w := w) (base := base) T
  obtain ⟨f__law_read, fd__law_read, G__law_read, g__law_read, kp__law_read, b__law_read⟩ := ok__law_read (P := P) (w := w) (base := base) T
  obtain ⟨f_is_pattern, fd_is_pattern, G_is_pattern, g_is_pattern, kp_is_pattern, b_is_pattern⟩ := ok_is_pattern (P := P) (w := w) (base := base) T
  refine F.ok sc_law (fun vs H Q E h => by obtain ⟨a, ns, rfl, _⟩ := h; rfl) (fun cdv A outer s H vs Q E hr h => ?_)
  exact fin_law (mg := mg) (f := m_law) (pss_cons (ps_set (i := 1) sc_law.nd rfl (by first | exact Or.inl rfl | exact Or.inr rfl) (pe_call G__law_start (hr.mono (by omega)) (by rfl) g__law_start kp__law_start b__law_start .nil pass0 (pa_cons (pv 0) pa_nil)))
      (pss_cons (ps_set (i := 2) sc_law.nd rfl (by first | exact Or.inl rfl | exact Or.inr rfl) (pe_call G__law_pick (hr.mono (by omega)) (by rfl) g__law_pick kp__law_pick b__law_pick .nil pass0 (pa_cons (pv 1) (pa_cons (pe_lst (pa_cons pe_str (pa_cons pe_str pa_nil))) pa_nil))))
      (pss_cons (ps_set (i := 3) sc_law.nd rfl (by first | exact Or.inl rfl | exact Or.inr rfl) (pe_call G__law_pattern (hr.mono (by omega)) (by rfl) g__law_pattern kp__law_pattern b__law_pattern .nil pass0 (pa_cons (pv 1) pa_nil)))
      (pss_cons (ps_set (i := 4) sc_law.nd rfl (by first | exact Or.inl rfl | exact Or.inr rfl) (pe_call G__law_is_pattern (hr.mono (by omega)) (by rfl) g__law_is_pattern kp__law_is_pattern b__law_is_pattern .nil pass0 (pa_cons (pv 3) pa_nil)))
      (pss_cons (ps_if (pt_not (pt_val (pe_call G__law_is (hr.mono (by omega)) (by rfl) g__law_is kp__law_is b__law_is .nil pass0 (pa_cons (pe_call G_is_pattern (hr.mono (by omega)) (by rfl) g_is_pattern kp_is_pattern b_is_pattern .nil pass0 (pa_cons (pv 3) pa_nil)) (pa_cons (pv 4) pa_nil))))) (pss_one (ps_ret pe_bl)) pss_nil)
      (pss_cons (ps_if (pt_not (pt_val (pv 4))) (pss_one (ps_ret pe_bl)) pss_nil)
      (pss_cons (ps_set (i := 5) sc_law.nd rfl (by first | exact Or.inl rfl | exact Or.inr rfl) (pe_tup (pa_cons (pe_call G__law_draw (hr.mono (by omega)) (by rfl) g__law_draw kp__law_draw b__law_draw .nil pass0 (pa_cons (pv 1) (pa_cons pe_int pa_nil))) (pa_cons (pe_op op_add pe_int (pe_call G__law_draw (hr.mono (by omega)) (by rfl) g__law_draw kp__law_draw b__law_draw .nil pass0 (pa_cons (pv 1) (pa_cons pe_int pa_nil)))) (pa_cons (pe_op op_add pe_int (pe_call G__law_draw (hr.mono (by omega)) (by rfl) g__law_draw kp__law_draw b__law_draw .nil pass0 (pa_cons (pv 1) (pa_cons pe_int pa_nil)))) pa_nil)))))
      (pss_cons (ps_set (i := 6) sc_law.nd rfl (by first | exact Or.inl rfl | exact Or.inr rfl) (pe_call G__law_draw (hr.mono (by omega)) (by rfl) g__law_draw kp__law_draw b__law_draw .nil pass0 (pa_cons (pv 1) (pa_cons pe_int pa_nil))))
      (pss_cons (ps_set (i := 7) sc_law.nd rfl (by first | exact Or.inl rfl | exact Or.inr rfl) (pe_call G_write (hr.mono (by omega)) (by rfl) g_write kp_write b_write .nil pass0 (pa_cons (pv 3) (pa_cons (pv 5) (pa_cons (pv 6) pa_nil)))))
      (pss_cons (ps_if (pt_cmpR op_ne (pv 7) (pe_call G__law_written (hr.mono (by omega)) (by rfl) g__law_written kp__law_written b__law_written .nil pass0 (pa_cons (pv 3) (pa_cons (pv 5) (pa_cons (pv 6) pa_nil)))) (nomark _)) (pss_one (ps_ret pe_bl)) pss_nil)
      (pss_cons (ps_set (i := 8) sc_law.nd rfl (by first | exact Or.inl rfl | exact Or.inr rfl) (pe_op op_add (pe_ifExp (pt_cmpR op_in_str pe_str (pv 3) (by rfl)) (pe_op op_mul pe_int (pe_op op_fdivW (pv 6) pe_int)) pe_int) (pe_ifExp (pt_cmpR op_in_str pe_str (pv 3) (by rfl)) (pe_op op_mod (pe_callTy call_int1 (by rfl) T.m_int (by decide +kernel) (pa_cons (pv 6) pa_nil)) pe_int) pe_int)))
      (pss_cons (ps_if (pt_cmpR (op_neD hr.units) (pe_call G__law_told (hr.mono (by omega)) (by rfl) g__law_told kp__law_told b__law_told .nil pass0 (pa_cons (pv 2) (pa_cons (pv 3) (pa_cons (pv 7) pa_nil)))) (pe_tup (pa_cons (pv 5) (pa_cons (pv 8) pa_nil))) (nomark _)) (pss_one (ps_ret pe_bl)) pss_nil)
      (pss_cons (ps_for PassesOwn.never rfl (pi_range1 (by rfl) T.m_range (pa_cons (pe_op op_add pe_int (pe_call G__law_draw (hr.mono (by omega)) (by rfl) g__law_draw kp__law_draw b__law_draw .nil pass0 (pa_cons (pv 1) (pa_cons pe_int pa_nil)))) pa_nil)) (pg_name (i := 9) sc_law.nd rfl (by first | exact Or.inl rfl | exact Or.inr rfl)) (pss_cons (ps_set (i := 10) sc_law.nd rfl (by first | exact Or.inl rfl | exact Or.inr rfl) (pe_call G__law_draw (hr.mono (by omega)) (by rfl) g__law_draw kp__law_draw b__law_draw .nil pass0 (pa_cons (pv 1) (pa_cons (pe_callB call_len_str (by rfl) T.m_len (by decide +kernel) (pa_cons (pv 7) pa_nil)) pa_nil))))
      (pss_cons (ps_set (i := 7) sc_law.nd rfl (by first | exact Or.inl rfl | exact Or.inr rfl) (pe_op op_add_str (pe_op op_add_str (pe_slice sl_str (pv 7) po_none (po_some (pv 10))) (pe_call G__law_pick (hr.mono (by omega)) (by rfl) g__law_pick kp__law_pick b__law_pick .nil pass0 (pa_cons (pv 1) (pa_cons (pe_lst (pa_cons pe_str (pa_cons pe_str (pa_cons pe_str (pa_cons pe_str (pa_cons pe_str (pa_cons pe_str pa_nil))))))) pa_nil)))) (pe_slice sl_str (pv 7) (po_some (pe_op op_add (pv 10) (pe_call G__law_draw (hr.mono (by omega)) (by rfl) g__law_draw kp__law_draw b__law_draw .nil pass0 (pa_cons (pv 1) (pa_cons pe_int pa_nil))))) po_none)))
      (pss_one (ps_if (pt_cmpR op_eq (pe_callB call_len_str (by rfl) T.m_len (by decide +kernel) (pa_cons (pv 7) pa_nil)) pe_int (nomark _)) (pss_one (ps_set (i := 7) sc_law.nd rfl (by first | exact Or.inl rfl | exact Or.inr rfl) pe_str)) pss_nil)))))
      (pss_one (ps_ret (pe_cmpR (op_eqD hr.units) (pe_call G__law_told (hr.mono (by omega)) (by rfl) g__law_told kp__law_told b__law_told .nil pass0 (pa_cons (pv 2) (pa_cons (pv 3) (pa_cons (pv 7) pa_nil)))) (pe_call G__law_read (hr.mono (by omega)) (by rfl) g__law_read kp__law_read b__law_read .nil pass0 (pa_cons (pv 2) (pa_cons (pv 3) (pa_cons (pv 7) pa_nil)))) (nomark _))))))))))))))))) (shs_seq (shs_setO (shf_call (sha_cons (sh_var 0) sha_nil) rfl))
  (shs_seq (shs_asg (shg_name 2) (sh_callI (sha_cons (ShF.e (shf_lst (sha_cons (sh_str "gregorian") (sha_cons (sh_str "julian") sha_nil)) (Nat.le_of_ble_eq_true rfl))) sha_nil) rfl))
  (shs_seq (shs_asg (shg_name 3) (sh_callI sha_nil rfl))
  (shs_seq (shs_asg (shg_name 4) (sh_call (sha_cons (sh_var 3) sha_nil) rfl))
  (shs_seq (shs_if (sht_not (sht_B (sh_call (sha_cons (sh_call (sha_cons (sh_var 3) sha_nil) rfl) (sha_cons (sh_var 4) sha_nil)) rfl))) (shs_ret (sh_bl false)) shs_next)
  (shs_seq (shs_if (sht_not (sht_B (sh_var 4))) (shs_ret (sh_bl true)) shs_next)
  (shs_seq (shs_asg (shg_name 5) (sh_tup (sha_cons (sh_callI (sha_cons (sh_int (10000)) sha_nil) rfl) (sha_cons (sh_op Mi.s_add (sh_int (1)) (sh_callI (sha_cons (sh_int (12)) sha_nil) rfl)) (sha_cons (sh_op Mi.s_add (sh_int (1)) (sh_callI (sha_cons (sh_int (28)) sha_nil) rfl)) sha_nil))) (Nat.le_of_ble_eq_true rfl)))
  (shs_seq (shs_asg (shg_name 6) (sh_callI (sha_cons (sh_int (1440)) sha_nil) rfl))
  (shs_seq (shs_asg (shg_name 7) (sh_call (sha_cons (sh_var 3) (sha_cons (sh_var 5) (sha_cons (sh_var 6) sha_nil))) rfl))
  (shs_seq (shs_if (sht_test (sh_op Mi.s_ne (sh_var 7) (sh_call (sha_cons (sh_var 3) (sha_cons (sh_var 5) (sha_cons (sh_var 6) sha_nil))) rfl))) (shs_ret (sh_bl false)) shs_next)
  (shs_seq (shs_asg (shg_name 8) (sh_op Mi.s_add (sh_if (sht_test (sh_op Mi.s_inS (sh_str "H") (sh_var 3))) (sh_op Mi.s_mul (sh_int (60)) (sh_op Mi.s_fdivW (sh_var 6) (sh_int (60)))) (sh_int (0))) (sh_if (sht_test (sh_op Mi.s_inS (sh_str "N") (sh_var 3))) (sh_op Mi.s_mod (sh_cb cs_int (sha_cons (sh_var 6) sha_nil)) (sh_int (60))) (sh_int (0)))))
  (shs_seq (shs_if (sht_test (sh_op Mi.s_neD (sh_call (sha_cons (sh_var 2) (sha_cons (sh_var 3) (sha_cons (sh_var 7) sha_nil))) rfl) (sh_tup (sha_cons (sh_var 5) (sha_cons (sh_var 8) sha_nil)) (Nat.le_of_ble_eq_true rfl)))) (shs_ret (sh_bl false)) shs_next)
  (shs_seq (shs_for (shi_rng1 (sha_cons (sh_op Mi.s_add (sh_int (1)) (sh_callI (sha_cons (sh_int (2)) sha_nil) rfl)) sha_nil)) (shg_name 9) (shs_seq (shs_asg (shg_name 10) (sh_callI (sha_cons (sh_cb cs_lenS (sha_cons (sh_var 7) sha_nil)) sha_nil) rfl))
  (shs_seq (shs_asg (shg_name 7) (sh_op Mi.s_addS (sh_op Mi.s_addS (sh_slS (sh_var 7) sho_none (sho_some (sh_var 10))) (sh_callI (sha_cons (ShF.e (shf_lst (sha_cons (sh_str "") (sha_cons (sh_str "9") (sha_cons (sh_str "3") (sha_cons (sh_str "-") (sha_cons (sh_str "x") (sha_cons (sh_str "00") sha_nil)))))) (Nat.le_of_ble_eq_true rfl))) sha_nil) rfl)) (sh_slS (sh_var 7) (sho_some (sh_op Mi.s_add (sh_var 10) (sh_callI (sha_cons (sh_int (2)) sha_nil) rfl))) sho_none)))
  (shs_if (sht_test (sh_op Mi.s_eq (sh_cb cs_lenS (sha_cons (sh_var 7) sha_nil)) (sh_int (0)))) (shs_asg (shg_name 7) (sh_str "5")) shs_next))))
  (shs_ret (sh_op Mi.s_eqD (sh_call (sha_cons (sh_var 2) (sha_cons (sh_var 3) (sha_cons (sh_var 7) sha_nil))) rfl) (sh_call (sha_cons (sh_var 2) (sha_cons (sh_var 3) (sha_cons (sh_var 7) sha_nil))) rfl)))))))))))))))) h (by decide) hf
end
end K33

set_option Elab.async false
set_option linter.all false
set_option maxRecDepth 100000
namespace K33
open PySem hiding Env ret
open PySem.Spec PyProof.Rows L2 Mi
/-! the walk over mirrors -/
local macro_rules | `(tactic| walk_at "lk") => `(tactic| first | exact Mi.lk0 | exact Mi.lk1 | exact Mi.lk2 | exact Mi.lk3 | exact Mi.lk4 | exact Mi.lk5 | exact Mi.lk6 | exact Mi.lk7 | exact Mi.lk8 | exact Mi.lk9 | exact Mi.lk10 | exact Mi.lk11 | exact Mi.lk12 | exact Mi.lk13 | exact Mi.lk14 | exact Mi.lk15 | exact Mi.lk16 | exact Mi.lk17 | exact Mi.lk18 | exact Mi.lk19 | exact Mi.lk20 | exact Mi.lk21 | exact Mi.lk22 | exact Mi.lk23 | exact Mi.lk24 | exact Mi.lk25 | exact Mi.lk26 | exact Mi.lk27 | exact Mi.lk28 | exact Mi.lk29 | exact Mi.lk30 | exact Mi.lk31 | exact Mi.lk32 | exact Mi.lk33 | exact Mi.lk34 | exact Mi.lk35 | exact Mi.lk36 | exact Mi.lk37 | exact Mi.lk38 | exact Mi.lk39)
local macro_rules | `(tactic| walk_at "st") => `(tactic| first | with_reducible refine Mi.st0 ?_ | with_reducible refine Mi.st1 ?_ | with_reducible refine Mi.st2 ?_ | with_reducible refine Mi.st3 ?_ | with_reducible refine Mi.st4 ?_ | with_reducible refine Mi.st5 ?_ | with_reducible refine Mi.st6 ?_ | with_reducible refine Mi.st7 ?_ | with_reducible refine Mi.st8 ?_ | with_reducible refine Mi.st9 ?_ | with_reducible refine Mi.st10 ?_ | with_reducible refine Mi.st11 ?_ | with_reducible refine Mi.st12 ?_ | with_reducible refine Mi.st13 ?_ | with_reducible refine Mi.st14 ?_ | with_reducible refine Mi.st15 ?_ | with_reducible refine Mi.st16 ?_ | with_reducible refine Mi.st17 ?_ | with_reducible refine Mi.st18 ?_ | with_reducible refine Mi.st19 ?_ | with_reducible refine Mi.st20 ?_ | with_reducible refine Mi.st21 ?_ | with_reducible refine Mi.st22 ?_ | with_reducible refine Mi.st23 ?_ | with_reducible refine Mi.st24 ?_ | with_reducible refine Mi.st25 ?_ | with_reducible refine Mi.st26 ?_ | with_reducible refine Mi.st27 ?_ | with_reducible refine Mi.st28 ?_ | with_reducible refine Mi.st29 ?_ | with_reducible refine Mi.st30 ?_ | with_reducible refine Mi.st31 ?_ | with_reducible refine Mi.st32 ?_ | with_reducible refine Mi.st33 ?_ | with_reducible refine Mi.st34 ?_ | with_reducible refine Mi.st35 ?_ | with_reducible refine Mi.st36 ?_ | with_reducible refine Mi.st37 ?_ | with_reducible refine Mi.st38 ?_ | with_reducible refine Mi.st39 ?_)
local macro_rules | `(tactic| walk_at "at") => `(tactic| first | with_reducible assumption | exact Rd.at0 | exact Rd.at1 | exact Rd.at2 | exact Rd.at3 | exact Rd.at4)
local macro_rules | `(tactic| walk_at "side") => `(tactic| first | with_reducible assumption | omega | (constructor <;> omega) | (refine Or.inl ⟨?_, ?_⟩ <;> omega) | (refine Or.inr ⟨?_, ?_⟩ <;> omega) | (simp only [List.length_cons, List.length_nil, List.length_append, List.length_map]; omega) | ((refine ⟨⟨?_, ?_⟩, ?_, ?_⟩) <;> omega))
local macro_rules | `(tactic| walk_at "fn") => `(tactic| fail)
local macro_rules | `(tactic| walk_at "w1") => `(tactic| first
  | ((with_reducible show Mi.SatS _ _ _ _ _ _); (first | with_reducible refine Mi.w_seq ?_ | with_reducible refine Mi.w_retIf ?_ | with_reducible refine Mi.w_retX ?_ | with_reducible refine Mi.w_asgX ?_ | with_reducible refine Mi.w_dropX ?_ | with_reducible refine Mi.w_raise ?_ | with_reducible refine Mi.w_asg ?_ | with_reducible refine Mi.w_ifS ?_ | with_reducible refine Mi.w_drop ?_ | with_reducible refine Mi.w_ret ?_ | with_reducible refine Mi.w_next ?_ | with_reducible refine Mi.w_for ?_ | with_reducible refine Mi.w_retN ?_ | with_reducible refine Mi.w_brk ?_ | with_reducible refine Mi.w_cnt ?_ | with_reducible refine Mi.w_while ?_ | with_reducible refine Mi.w_setO ?_))
  | ((with_reducible show Mi.Sat _ _); (first | ((with_reducible apply Mi.w_val); (walk_at "lk")) | with_reducible refine Mi.w_c ?_ | with_reducible refine Mi.w_op ?_ | with_reducible refine Mi.w_call ?_ | with_reducible refine Mi.w_callI ?_ | with_reducible refine Mi.w_tup ?_ | with_reducible refine Mi.w_getV ?_ | with_reducible refine Mi.w_ixV ?_ | ((with_reducible apply Mi.w_pkv); (walk_at "lk")) | with_reducible refine Mi.w_peek ?_ | with_reducible refine Mi.w_cb ?_ | with_reducible refine Mi.w_lst ?_ | with_reducible refine Mi.w_un ?_ | ((with_reducible apply Mi.w_ownA); (walk_at "lk"); (exact rfl)) | with_reducible refine Mi.w_andV ?_ | with_reducible refine Mi.w_orV ?_ | with_reducible refine Mi.w_notV ?_ | with_reducible refine Mi.w_if ?_ | with_reducible refine Mi.w_chain ?_ | with_reducible refine Mi.w_sl ?_ | with_reducible refine Mi.w_get ?_ | with_reducible refine Mi.w_d0 ?_ | with_reducible refine Mi.w_dict ?_ | with_reducible refine Mi.w_tupS ?_ | with_reducible refine Mi.w_app ?_ | with_reducible refine Mi.w_lcw ?_ | with_reducible refine Mi.w_js1 ?_ | with_reducible refine Mi.w_js0 ?_ | ((with_reducible apply Mi.w_lenO); (walk_at "lk")) | ((with_reducible apply Mi.w_lenv); (walk_at "lk"))))
  | ((with_reducible show Mi.SatT _ _); (first | with_reducible refine Mi.w_B ?_ | with_reducible refine Mi.w_andT ?_ | with_reducible refine Mi.w_orT ?_ | with_reducible refine Mi.w_notT ?_ | with_reducible refine Mi.w_yes ?_))
  | ((with_reducible show Mi.SatA _ _); (first | with_reducible refine Mi.w_nil ?_ | with_reducible refine Mi.w_cons ?_ | with_reducible refine Mi.w_snil ?_ | with_reducible refine Mi.w_sone ?_ | with_reducible refine Mi.w_sstar ?_ | with_reducible refine Mi.w_r1 ?_ | with_reducible refine Mi.w_r2 ?_ | with_reducible refine Mi.w_itL1 ?_ | with_reducible refine Mi.w_itT1 ?_))
  | ((with_reducible show Mi.VAL _ _); (first | with_reducible apply Mi.v_add | with_reducible apply Mi.v_sub | with_reducible apply Mi.v_eqI | with_reducible apply Mi.v_lt | with_reducible apply Mi.v_le | with_reducible apply Mi.v_gt | with_reducible apply Mi.v_ge | with_reducible apply Mi.v_neI | ((with_reducible apply Mi.v_ixL); (walk_at "at")) | ((with_reducible apply Mi.v_ixT); (walk_at "at")) | ((with_reducible apply Mi.v_mul); (walk_at "side")) | ((with_reducible apply Mi.v_div); (walk_at "side")) | ((with_reducible apply Mi.v_mod); (walk_at "side")) | with_reducible apply Mi.v_neg | with_reducible apply Mi.v_eqS | with_reducible apply Mi.v_eqB | with_reducible apply Mi.v_neS | with_reducible apply Mi.v_neB | with_reducible apply Mi.v_eqNI | with_reducible apply Mi.v_neNI | with_reducible apply Mi.v_isN | with_reducible apply Mi.v_notN | with_reducible apply Mi.v_lenL | with_reducible apply Mi.v_lenT | with_reducible apply Mi.v_abs | with_reducible apply Mi.v_int | with_reducible apply Mi.v_intB | with_reducible apply Mi.v_min2 | with_reducible apply Mi.v_max2 | with_reducible apply Mi.v_tupL | with_reducible apply Mi.v_tupT | with_reducible apply Mi.v_lstL | with_reducible apply Mi.v_lstT | with_reducible apply Mi.v_slT | with_reducible apply Mi.v_slL | ((with_reducible apply Mi.v_pow); (decide)) | ((with_reducible apply Mi.v_catL); (walk_at "side")) | ((with_reducible apply Mi.v_catT); (walk_at "side")) | ((with_reducible apply Mi.v_divmod); (walk_at "side")) | ((with_reducible apply Mi.v_fmt2); (walk_at "side")) | walk_at "fn"))
  | ((with_reducible show Mi.IFV _ _ _); (first | with_reducible refine Mi.if_t ?_ | with_reducible refine Mi.if_f ?_ | with_reducible refine Mi.if_nt ?_ | with_reducible refine Mi.if_nf ?_ | with_reducible refine Mi.if_n1 ?_ | with_reducible refine Mi.if_n2 ?_ | with_reducible refine Mi.if_n3 ?_ | with_reducible refine Mi.if_n4 ?_ | with_reducible refine Mi.if_n5 ?_ | with_reducible refine Mi.if_n6 ?_))
  | ((with_reducible show Mi.SETS _ _); (first | walk_at "st" | (with_reducible refine Mi.put_own (by walk_at "lk") ?_) | (with_reducible refine Mi.put_io (by walk_at "lk") ?_)))
  | ((with_reducible show Mi.TG _ _); (first | ((with_reducible apply Mi.tg_n); (exact rfl)) | ((with_reducible apply Mi.tg_t); (exact rfl))))
  | ((with_reducible show Mi.TGS _ _); (first | with_reducible refine Mi.tgs_cons ?_ | with_reducible refine Mi.tgs_nil ?_))
  | ((with_reducible show Mi.LCB _ _ _); (with_reducible apply Mi.lcb); (exact rfl))
  | ((with_reducible show Mi.WIPE _ _); (first | with_reducible refine Mi.wp1 ?_ | with_reducible refine Mi.wp2 ?_ | ((with_reducible refine Mi.rs1 ?_ ?_); (walk_at "lk")) | ((with_reducible refine Mi.rs1v (d := ?_) ?_ ?_); (walk_at "lk")) | ((with_reducible refine Mi.rs2 ?_ ?_ ?_); (walk_at "lk"); (walk_at "lk"))))
  | ((with_reducible show Mi.SETO _ _ _ _); (with_reducible apply Mi.seto); (exact rfl))
  | with_reducible refine Mi.isl ?_
  | ((with_reducible show Mi.APP _ _ _ _ _); (with_reducible apply Mi.app_); (walk_at "side"))
  | ((with_reducible show Mi.LEQ _ _); (with_reducible apply Mi.leq); (walk_at "side"))
  | with_reducible refine Mi.isls ?_
  | with_reducible refine Mi.ists ?_
  | ((with_reducible show Mi.R1 _ _); (with_reducible apply Mi.r1_); (walk_at "side"))
  | ((with_reducible show Mi.R2 _ _); (with_reducible apply Mi.r2_); (walk_at "side"))
  | with_reducible refine Mi.prt ?_
  | with_reducible refine Mi.w_part ?_
  | with_reducible refine Mi.bl_ ?_
  | ((with_reducible show Mi.MU _ _); (with_reducible apply Mi.mu_own); (walk_at "lk"))
  | ((with_reducible show Mi.MU _ _); (with_reducible apply Mi.mu_io); (walk_at "lk"))
  | with_reducible refine Mi.dl_cons ?_
  | with_reducible refine Mi.dl_nil ?_
  | with_reducible refine Mi.w_none ?_
  | with_reducible refine Mi.io_of ?_
  | with_reducible refine Mi.w_itT ?_
  | with_reducible refine Mi.w_itL ?_
  | walk_at "fn")
local macro_rules | `(tactic| walk_at "w") => `(tactic| repeat (walk_at "w1"))
local macro_rules | `(tactic| walk_at "wd") => `(tactic| first
  | ((with_reducible refine Mi.if_p ?_ ?_); (first | with_reducible assumption | exact rfl | decide | omega))
  | ((with_reducible refine Mi.if_m ?_ ?_); (first | with_reducible assumption | exact rfl | decide | omega))
  | ((with_reducible refine Mi.if_np ?_ ?_); (first | with_reducible assumption | exact rfl | decide | omega))
  | ((with_reducible refine Mi.if_nm ?_ ?_); (first | with_reducible assumption | exact rfl | decide | omega)))
local macro_rules | `(tactic| walk_at "mo") => `(tactic| (walk_at "w"; (repeat (walk_at "wd"; walk_at "w"))))
local macro_rules | `(tactic| walk_at "env") => `(tactic| simp only [envP, envI, List.map_cons, List.map_nil, List.length_cons, List.length_nil, List.replicate, List.cons_append, List.nil_append, Nat.reduceAdd, Nat.reduceSub])

local macro_rules | `(tactic| walk_at "fn") => `(tactic| first | ((with_reducible show Mi.VAL _ _); (with_reducible apply Mi.t_left)) | ((with_reducible show Mi.Sat _ _); (with_reducible refine Mi.w_isiE ?_)) | ((with_reducible show Mi.Sat _ _); (with_reducible refine Mi.w_pkR ?_)) | ((with_reducible show Mi.Sat _ _); (with_reducible refine Mi.w_ext ?_)) | ((with_reducible show Mi.EXT _ _ _ _ _); (with_reducible apply Mi.ext_); (walk_at "side")) | ((with_reducible show Mi.SatA _ _); (with_reducible refine Mi.w_r3 ?_)) | ((with_reducible show Mi.Sat _ _); (first | with_reducible refine Mi.w_lr3 ?_ | with_reducible refine Mi.w_pop ?_ | with_reducible refine Mi.w_sj ?_ | with_reducible refine Mi.w_popAt ?_ | with_reducible refine Mi.w_lstS ?_ | with_reducible refine Mi.w_scj ?_ | with_reducible refine Mi.w_lc2 ?_ | with_reducible refine Mi.w_fld ?_ | with_reducible refine Mi.w_meth ?_ | with_reducible refine Mi.w_kg ?_ | with_reducible refine Mi.w_k1 ?_ | with_reducible refine Mi.w_kgI ?_ | with_reducible refine Mi.w_neV ?_ | with_reducible refine Mi.w_dinV ?_ | ((with_reducible apply Mi.w_lstV); (walk_at "lk")) | ((with_reducible apply Mi.w_isiV); (walk_at "lk")) | with_reducible refine Mi.w_m1 ?_ | ((with_reducible refine Mi.w_lcO ?_ ?_); (decide)))) | ((with_reducible show Mi.TG _ _); (with_reducible refine Mi.tg_guard ?_ ?_); (first | exact Mi.mu_own' (by walk_at "lk") | exact Mi.mu_io' (by walk_at "lk"))) | (with_reducible refine Mi.iss ?_) | (with_reducible refine Mi.io_of1 ?_) | ((with_reducible show Mi.SatS _ _ _ _ _ _); (first | with_reducible refine Mi.w_setF ?_ | with_reducible refine Mi.w_new ?_)) | ((with_reducible show Mi.SatA _ _); (first | with_reducible refine Mi.w_enum ?_ | with_reducible refine Mi.w_itS1 ?_ | with_reducible refine Mi.w_enumS ?_ | with_reducible refine Mi.w_zipS ?_)) | ((with_reducible show Mi.ENS _ _); (with_reducible apply Mi.ens_); (walk_at "side")) | ((with_reducible show Mi.ZPS _ _); (with_reducible refine Mi.zps_ ?_)) | ((with_reducible show Mi.KG _ _ _ _); (with_reducible refine Mi.kg_ ?_)) | ((with_reducible show Mi.KGI _ _ _ _); (with_reducible refine Mi.kgi_ ?_)) | ((with_reducible show Mi.VAL _ _); (first | with_reducible apply Mi.v_kin | with_reducible apply Mi.v_count)) | ((with_reducible show Mi.DIK _ _ _ _); (with_reducible refine Mi.dik_ ?_)) | ((with_reducible show Mi.VAL _ _); (with_reducible apply Mi.v_gne)) | ((with_reducible show Mi.TG _ _); (with_reducible apply Mi.tg_l); (exact rfl)) | ((with_reducible show Mi.EN _ _); (with_reducible refine Mi.en_ ?_)) | (with_reducible refine Mi.isst ?_) | ((with_reducible show Mi.VAL _ _); (first | with_reducible apply Mi.v_leS | with_reducible apply Mi.v_inS | with_reducible apply Mi.v_ninS | with_reducible apply Mi.v_start | with_reducible apply Mi.v_ends | with_reducible apply Mi.v_strS | ((with_reducible apply Mi.v_lenS); (walk_at "side")) | ((with_reducible apply Mi.v_ixS); (walk_at "side"); (walk_at "at")) | ((with_reducible apply Mi.v_repL); (walk_at "side")))) | ((with_reducible show Mi.SJ _ _); (with_reducible apply Mi.sj_); (walk_at "side")))
/-! a text cut at a sign, and put together again -/
open TL
def sp (s : Nat) : List Nat → List Nat → List (List Nat)
  | acc, [] => [acc]
  | acc, c :: r => if c = s then acc :: sp s [] r else sp s (acc ++ [c]) r
theorem spl_sp (s : Nat) : ∀ (l acc : List Nat), spl [s] 0 acc l = sp s acc l
  | [], acc => spl_nil _ _ _
  | c :: r, acc => by
    unfold sp
    by_cases h : c = s
    · subst h
      rw [if_pos rfl, spl_hit (show pre [c] (c :: r) = true from pre_self [c] r)]
      show acc :: spl [c] 0 [] r = _
      rw [spl_sp c r []]
    · rw [if_neg h, spl_miss (pre_of_head [] r h), spl_sp s r]
theorem sp_ne (s : Nat) : ∀ (l acc : List Nat), sp s acc l ≠ []
  | [], acc => by unfold sp; simp
  | c :: r, acc => by
    unfold sp
    split
    · simp
    · exact sp_ne s r _
theorem sp_free (s : Nat) : ∀ (l acc : List Nat), s ∉ acc → ∀ p ∈ sp s acc l, s ∉ p
  | [], acc, h, p, hp => by
    unfold sp at hp
    rw [List.mem_singleton] at hp
    subst hp; exact h
  | c :: r, acc, h, p, hp => by
    unfold sp at hp
    split at hp
    · rcases List.mem_cons.mp hp with rfl | hp
      · exact h
      · exact sp_free s r [] (by simp) p hp
    · rename_i hc
      refine sp_free s r _ (fun z => ?_) p hp
      rcases List.mem_append.mp z with z | z
      · exact h z
      · rw [List.mem_singleton] at z; exact hc z.symm
theorem join_sp (s : Nat) : ∀ (l acc : List Nat), joinL [s] (sp s acc l) = acc ++ l
  | [], acc => by unfold sp; simp [joinL]
  | c :: r, acc => by
    unfold sp
    split
    · rename_i h
      subst h
      have ih := join_sp c r []
      cases hz : sp c [] r with
      | nil => exact absurd hz (sp_ne c r [])
      | cons p ps =>
        rw [hz] at ih
        show acc ++ ([c] ++ joinL [c] (p :: ps)) = _
        rw [ih]
        rfl
    · rw [join_sp s r, List.append_assoc]
      rfl
/-- the parts of a text between signs y -/
theorem split_tl {x y : Str} {s : Nat} (ey : tl y = [s]) (hk : y.cps.all (· < 256) = true) : (Txt.split x y).map tl = sp s [] (tl x) := by
  rw [split_spl _ y (by rw [ey]; simp) (kind_ok hk), ey, spl_sp]
theorem split_ne {x y : Str} {s : Nat} (ey : tl y = [s]) (hk : y.cps.all (· < 256) = true) : Txt.split x y ≠ [] := fun e => by
  have := split_tl (x := x) ey hk
  rw [e] at this
  exact sp_ne s _ _ this.symm
theorem join_split {x y : Str} {s : Nat} (ey : tl y = [s]) (hk : y.cps.all (· < 256) = true) : Txt.join y (Txt.split x y) = x := by
  refine ext_tl ?_
  rw [join_eq, tl_join, ey, split_tl ey hk, join_sp]
  rfl
theorem split_free {x y : Str} {s : Nat} (ey : tl y = [s]) (hk : y.cps.all (· < 256) = true) {p : Str} (hp : p ∈ Txt.split x y) : s ∉ tl p := by
  have h := split_tl (x := x) ey hk
  exact sp_free s (tl x) [] (List.not_mem_nil) _ (by rw [← h]; exact List.mem_map.mpr ⟨p, hp, rfl⟩)
theorem sp_len (s : Nat) : ∀ (l acc : List Nat), (sp s acc l).length ≤ l.length + 1
  | [], acc => by unfold sp; simp
  | c :: r, acc => by
    unfold sp
    split
    · have := sp_len s r []; rw [List.length_cons, List.length_cons]; omega
    · have := sp_len s r (acc ++ [c]); rw [List.length_cons]; omega
theorem split_len {x y : Str} {s : Nat} (ey : tl y = [s]) (hk : y.cps.all (· < 256) = true) : (Txt.split x y).length ≤ x.length + 1 := by
  have h := congrArg List.length (split_tl (x := x) ey hk)
  rw [List.length_map] at h
  rw [h, len_tl]
  exact sp_len s _ _
theorem sp_sum (s : Nat) : ∀ (l acc : List Nat), ((sp s acc l).map (·.length)).sum ≤ acc.length + l.length
  | [], acc => by unfold sp; simp
  | c :: r, acc => by
    unfold sp
    split
    · have := sp_sum s r []
      rw [List.map_cons, List.sum_cons, List.length_cons]
      simp at this
      omega
    · have := sp_sum s r (acc ++ [c])
      rw [List.length_append, List.length_singleton] at this
      rw [List.length_cons]
      omega
theorem le_sum : ∀ (l : List Nat) (x : Nat), x ∈ l → x ≤ l.sum
  | [], x, h => by cases h
  | a :: l, x, h => by
    rw [List.sum_cons]
    rcases List.mem_cons.mp h with rfl | h
    · omega
    · have := le_sum l x h; omega
theorem split_sum {x y : Str} {s : Nat} (ey : tl y = [s]) (hk : y.cps.all (· < 256) = true) : ((Txt.split x y).map (·.length)).sum ≤ x.length := by
  have h := split_tl (x := x) ey hk
  have e : (Txt.split x y).map (·.length) = (sp s [] (tl x)).map (·.length) := by
    rw [← h, List.map_map]
    exact List.map_congr_left fun p _ => len_tl p
  rw [e, len_tl]
  have := sp_sum s (tl x) []
  simpa using this
theorem split_le {x y p : Str} {s : Nat} (ey : tl y = [s]) (hk : y.cps.all (· < 256) = true) (hp : p ∈ Txt.split x y) : p.length ≤ x.length :=
  Nat.le_trans (le_sum _ _ (List.mem_map.mpr ⟨p, hp, rfl⟩)) (split_sum ey hk)
/-! numbers as texts -/
open PySem.NumText in
theorem val_snoc (d : List Nat) (c : Nat) : digitsVal (d ++ [c]) = digitsVal d * 10 + (c - 48) := by
  unfold digitsVal
  rw [List.foldl_append]
  rfl
open PySem.NumText in
theorem val_pos : ∀ (d : List Nat) (c : Nat), AllDigits (c :: d) → c ≠ 48 → 1 ≤ digitsVal (c :: d) := by
  intro d
  have key : ∀ (n : Nat) (d : List Nat), d.length = n → ∀ c, AllDigits (c :: d) → c ≠ 48 → 1 ≤ digitsVal (c :: d) := by
    intro n
    induction n with
    | zero =>
      intro d hd c h hc
      have : d = [] := List.length_eq_zero_iff.mp hd
      subst this
      have := h.head
      show 1 ≤ 0 * 10 + (c - 48)
      omega
    | succ n ih =>
      intro d hd c h hc
      obtain ⟨d', e, rfl⟩ : ∃ d' e, d = d' ++ [e] := by
        rcases List.eq_nil_or_concat d with rfl | ⟨d', e, rfl⟩
        · simp at hd
        · exact ⟨d', e, by simp⟩
      rw [show c :: (d' ++ [e]) = (c :: d') ++ [e] from rfl, val_snoc]
      have := ih d' (by simpa using hd) c (fun z hz => h z (by
        rcases List.mem_cons.mp hz with rfl | hz
        · exact List.mem_cons_self ..
        · exact List.mem_cons_of_mem _ (List.mem_append.mpr (.inl hz)))) hc
      omega
  exact key d.length d rfl
/-- a number's signs without a needless 0 -/
def canon (d : List Nat) : Prop := PySem.NumText.AllDigits d ∧ d ≠ [] ∧ (d = [48] ∨ d.head? ≠ some 48)
open PySem.NumText in
theorem num_val : ∀ (d : List Nat), canon d → numL (digitsVal d) = d := by
  intro d
  have key : ∀ (n : Nat) (d : List Nat), d.length = n → canon d → numL (digitsVal d) = d := by
    intro n
    induction n with
    | zero => intro d hd h; exact absurd (List.length_eq_zero_iff.mp hd) h.2.1
    | succ n ih =>
      intro d hd h
      obtain ⟨d', e, rfl⟩ : ∃ d' e, d = d' ++ [e] := by
        rcases List.eq_nil_or_concat d with rfl | ⟨d', e, rfl⟩
        · simp at hd
        · exact ⟨d', e, by simp⟩
      obtain ⟨h1, h2, h3⟩ := h
      have he := h1 e (List.mem_append.mpr (.inr (List.mem_singleton.mpr rfl)))
      cases d' with
      | nil =>
        show numL (0 * 10 + (e - 48)) = [e]
        rw [numL_lt (by omega)]
        congr 1
        omega
      | cons c r =>
        have hd' : AllDigits (c :: r) := fun z hz => h1 z (List.mem_append.mpr (.inl hz))
        have c48 : c ≠ 48 := by
          rcases h3 with h3 | h3
          · simp at h3
          · intro z; exact h3 (by rw [z]; rfl)
        have p := val_pos r c hd' c48
        rw [val_snoc, numL_step (by omega)]
        have q := ih (c :: r) (by simpa using hd) ⟨hd', by simp, .inr (by simpa using c48)⟩
        rw [show (digitsVal (c :: r) * 10 + (e - 48)) / 10 = digitsVal (c :: r) by omega, show (digitsVal (c :: r) * 10 + (e - 48)) % 10 = e - 48 by omega, q, show 48 + (e - 48) = e by omega]
  exact key d.length d rfl
theorem numL_head : ∀ (n : Nat), 0 < n → (numL n).head? ≠ some 48 := by
  intro n
  induction n using Nat.strongRecOn with
  | _ n ih =>
    intro h
    by_cases c : n < 10
    · rw [numL_lt c]
      intro z
      injection z with z
      omega
    · rw [numL_step (by omega)]
      have := ih (n / 10) (by omega) (by omega)
      cases hz : numL (n / 10) with
      | nil => exact absurd hz (numL_ne _)
      | cons a r => rw [hz] at this; exact this
theorem numL_canon (n : Nat) : canon (numL n) := by
  refine ⟨numL_digits n, numL_ne n, ?_⟩
  by_cases h : n = 0
  · subst h; exact .inl (numL_lt (by decide))
  · exact .inr (numL_head n (by omega))
/-- the signs of any whole number -/
def intL (i : Int) : List Nat := if i < 0 then 45 :: numL i.natAbs else numL i.natAbs
theorem tl_int (i : Int) : tl (Str.ofString (toString i)) = intL i := by
  unfold intL
  by_cases h : i < 0
  · rw [if_pos h]
    obtain ⟨k, rfl⟩ : ∃ k : Nat, i = -((k + 1 : Nat) : Int) := ⟨i.natAbs - 1, by omega⟩
    have e : (toString (-((k + 1 : Nat) : Int)) : String) = "-" ++ toString (((k + 1 : Nat)) : Int) := rfl
    have n : (-((k + 1 : Nat) : Int)).natAbs = k + 1 := by omega
    rw [n, ← tl_num (k + 1), e, tl_ofString, tl_ofString, String.toList_append, List.map_append]
    rfl
  · rw [if_neg h]
    obtain ⟨k, rfl⟩ : ∃ k : Nat, i = (k : Int) := ⟨i.natAbs, by omega⟩
    rw [show ((k : Nat) : Int).natAbs = k from rfl]
    exact tl_num k
/-! words -/
theorem s45 : ("-" : Str) = ⟨#[45]⟩ := by decide +kernel
theorem s48 : ("0" : Str) = ⟨#[48]⟩ := by decide +kernel
theorem s57 : ("9" : Str) = ⟨#[57]⟩ := by decide +kernel
theorem s32 : (" " : Str) = ⟨#[32]⟩ := by decide +kernel
theorem s10 : ("\n" : Str) = ⟨#[10]⟩ := by decide +kernel
theorem t_mk (l : Array Nat) : tl (⟨l⟩ : Str) = l.toList := rfl
theorem start1 (x : Str) (c : Nat) : Txt.startswith x ⟨#[c]⟩ = decide ((tl x).head? = some c) := by
  have s := PySem.StrLaws.subAt_one x c 0
  unfold PySem.Txt.startswith
  rw [List.head?_eq_getElem?]
  cases z : decide ((tl x)[0]? = some c) with
  | true =>
    obtain ⟨h1, h2⟩ := s.mpr (of_decide_eq_true z)
    rw [decide_eq_true h1, h2]
    rfl
  | false =>
    have z := of_decide_eq_false z
    cases a : (decide (0 + (⟨#[c]⟩ : Str).length ≤ x.length) && PySem.Builtin.Str.subAt x ⟨#[c]⟩ 0) with
    | false => rfl
    | true =>
      rw [Bool.and_eq_true, decide_eq_true_eq] at a
      exact absurd (s.mp a) z
theorem tl_cut1 (x : Str) : tl (cutS x (some 1) none) = (tl x).drop 1 := by
  have e : HT.sIx x.length 0 (some 1) = min 1 x.length := HT.sIx_nat x.length 0 1
  have l := len_tl x
  have key : ∀ L : List Nat, x.length = L.length → (L.drop (HT.sIx x.length 0 (some 1))).take (HT.sIx x.length x.length none - HT.sIx x.length 0 (some 1)) = L.drop 1 := fun L hL => by
    rw [e, HT.sIx_none, hL]
    cases L with
    | nil => rfl
    | cons a r =>
      rw [List.length_cons, show min 1 (r.length + 1) = 1 by omega]
      show r.take (r.length + 1 - 1) = r
      rw [Nat.add_sub_cancel, List.take_length]
  exact (List.toList_toArray ..).trans (key _ l)
theorem tl_cut0 (x : Str) : tl (cutS x none (some 1)) = (tl x).take 1 := by
  have e : HT.sIx x.length x.length (some 1) = min 1 x.length := HT.sIx_nat x.length x.length 1
  have l := len_tl x
  have key : ∀ L : List Nat, x.length = L.length → (L.drop (HT.sIx x.length 0 none)).take (HT.sIx x.length x.length (some 1) - HT.sIx x.length 0 none) = L.take 1 := fun L hL => by
    rw [e, HT.sIx_none, List.drop_zero, Nat.sub_zero, hL]
    cases L with
    | nil => rfl
    | cons a r => rw [List.length_cons, show min 1 (r.length + 1) = 1 by omega]
  exact (List.toList_toArray ..).trans (key _ l)
/-- the digits of a word -/
def dg (w : Str) : List Nat := if (tl w).head? = some 45 then (tl w).drop 1 else tl w
def isDg (l : List Nat) : Bool := l.all fun c => decide (48 ≤ c ∧ c ≤ 57)
def okW (w : Str) : Bool := (decide (1 ≤ (dg w).length ∧ (dg w).length ≤ 20) && isDg (dg w)) && (decide (tl w = [48]) || decide ((dg w).head? ≠ some 48))
theorem isDg_ok {l : List Nat} : isDg l = true ↔ PySem.NumText.AllDigits l := by
  unfold isDg PySem.NumText.AllDigits
  rw [List.all_eq_true]
  exact ⟨fun h c hc => of_decide_eq_true (h c hc), fun h c hc => decide_eq_true (h c hc)⟩
theorem okW_get {w : Str} (h : okW w = true) : canon (dg w) ∧ (dg w).length ≤ 20 ∧ (tl w = dg w ∨ (tl w = 45 :: dg w ∧ dg w ≠ [48])) := by
  unfold okW at h
  simp only [Bool.and_eq_true, Bool.or_eq_true, decide_eq_true_eq] at h
  obtain ⟨⟨⟨h1, h2⟩, h3⟩, h4⟩ := h
  have h3 := isDg_ok.mp h3
  have ne : dg w ≠ [] := fun e => by rw [e] at h1; simp at h1
  by_cases c : (tl w).head? = some 45
  · have e : dg w = (tl w).drop 1 := if_pos c
    have t : tl w = 45 :: dg w := by
      rw [e]
      cases hz : tl w with
      | nil => rw [hz] at c; cases c
      | cons a r => rw [hz] at c; injection c with c; subst c; rfl
    have h5 : (dg w).head? ≠ some 48 := by
      rcases h4 with h4 | h4
      · rw [h4] at t; cases t
      · exact h4
    exact ⟨⟨h3, ne, .inr h5⟩, h2, .inr ⟨t, fun z => h5 (by rw [z]; rfl)⟩⟩
  · have e : dg w = tl w := if_neg c
    refine ⟨⟨h3, ne, ?_⟩, h2, .inl e.symm⟩
    rcases h4 with h4 | h4
    · left; rw [e]; exact h4
    · exact .inr h4
/-- what a right word reads as, and that it is how that number is written -/
theorem okW_int {w : Str} (h : okW w = true) : ∃ n : Int, PySem.intText? w = some n ∧ Str.ofString (toString n) = w ∧ w.length ≤ 21 ∧ n.natAbs < 10 ^ 21 := by
  obtain ⟨h1, h2, h3⟩ := okW_get h
  obtain ⟨d1, d2, d3⟩ := h1
  have lw : w.length ≤ 21 := by
    rw [len_tl]
    rcases h3 with h3 | ⟨h3, _⟩
    · rw [h3]; omega
    · rw [h3, List.length_cons]; omega
  have vb : PySem.NumText.digitsVal (dg w) < 10 ^ 21 := by
    have key : ∀ (l : List Nat), PySem.NumText.AllDigits l → PySem.NumText.digitsVal l < 10 ^ l.length := by
      intro l
      have : ∀ (n : Nat) (l : List Nat), l.length = n → PySem.NumText.AllDigits l → PySem.NumText.digitsVal l < 10 ^ l.length := by
        intro n
        induction n with
        | zero => intro l hl _; have : l = [] := List.length_eq_zero_iff.mp hl; subst this; decide
        | succ n ih =>
          intro l hl hd
          obtain ⟨d', e, rfl⟩ : ∃ d' e, l = d' ++ [e] := by
            rcases List.eq_nil_or_concat l with rfl | ⟨d', e, rfl⟩
            · simp at hl
            · exact ⟨d', e, by simp⟩
          have := ih d' (by simpa using hl) fun c hc => hd c (List.mem_append.mpr (.inl hc))
          have he := hd e (List.mem_append.mpr (.inr (List.mem_singleton.mpr rfl)))
          rw [val_snoc, List.length_append, List.length_singleton, Nat.pow_succ]
          omega
      exact this l.length l rfl
    exact Nat.lt_of_lt_of_le (key _ d1) (Nat.pow_le_pow_right (by decide) (by omega))
  rcases h3 with h3 | ⟨h3, h4⟩
  · refine ⟨_, PySem.intText_digits (x := w) (by rw [show w.cps.toList = dg w from h3]; exact d1) (by rw [show w.cps.toList = dg w from h3]; exact d2) (by omega), ?_, lw, ?_⟩
    · refine ext_tl ?_
      rw [tl_int]
      unfold intL
      rw [if_neg (by omega), show w.cps.toList = dg w from h3, show ((PySem.NumText.digitsVal (dg w) : Nat) : Int).natAbs = PySem.NumText.digitsVal (dg w) from rfl, num_val _ ⟨d1, d2, d3⟩]
      exact h3.symm
    · rw [show w.cps.toList = dg w from h3]
      exact vb
  · have p : 1 ≤ PySem.NumText.digitsVal (dg w) := by
      cases hz : dg w with
      | nil => exact absurd hz d2
      | cons c r =>
        rw [hz] at d1 d3 h4
        refine val_pos r c d1 fun z => ?_
        rcases d3 with d3 | d3
        · exact h4 d3
        · exact d3 (by rw [z]; rfl)
    refine ⟨_, PySem.intText_neg (x := w) h3 d1 d2 (by omega), ?_, lw, ?_⟩
    · refine ext_tl ?_
      rw [tl_int]
      unfold intL
      rw [if_pos (by omega), show (-((PySem.NumText.digitsVal (dg w) : Nat) : Int)).natAbs = PySem.NumText.digitsVal (dg w) by omega, num_val _ ⟨d1, d2, d3⟩]
      exact h3.symm
    · rw [show (-((PySem.NumText.digitsVal (dg w) : Nat) : Int)).natAbs = PySem.NumText.digitsVal (dg w) by omega]
      exact vb
/-- a number's own text is right and reads as the number -/
theorem int_okW {i : Int} (h : i.natAbs < 10 ^ 20) : okW (Str.ofString (toString i)) = true ∧ PySem.intText? (Str.ofString (toString i)) = some i := by
  have t := tl_int i
  obtain ⟨c1, c2, c3⟩ := numL_canon i.natAbs
  have ll := numL_len (n := i.natAbs) (k := 20) (by decide) h
  have hd : dg (Str.ofString (toString i)) = numL i.natAbs := by
    unfold dg
    rw [t]
    unfold intL
    by_cases c : i < 0
    · rw [if_pos c]; rfl
    · rw [if_neg c, if_neg]
      intro z
      cases hz : numL i.natAbs with
      | nil => rw [hz] at z; cases z
      | cons a r =>
        rw [hz] at z
        injection z with z
        have := c1 a (by rw [hz]; exact List.mem_cons_self ..)
        omega
  have l1 : 1 ≤ (numL i.natAbs).length := List.length_pos_iff.mpr c2
  have ok : okW (Str.ofString (toString i)) = true := by
    unfold okW
    rw [hd, isDg_ok.mpr c1, decide_eq_true ⟨l1, ll⟩]
    show (decide _ || decide _) = true
    rw [Bool.or_eq_true, decide_eq_true_eq, decide_eq_true_eq]
    by_cases z : i = 0
    · subst z; left; exact t.trans (by unfold intL; rw [if_neg (by decide)]; exact numL_lt (by decide))
    · right; exact numL_head _ (by omega)
  obtain ⟨n, h1, h2, _, _⟩ := okW_int ok
  refine ⟨ok, ?_⟩
  have e : intL n = intL i := by rw [← tl_int, ← tl_int, h2]
  have : n = i := by
    unfold intL at e
    by_cases a : n < 0
    · by_cases b : i < 0
      · rw [if_pos a, if_pos b] at e
        have := numL_inj (List.cons.inj e).2
        omega
      · rw [if_pos a, if_neg b] at e
        have := c1 45 (by rw [← e]; exact List.mem_cons_self ..)
        omega
    · by_cases b : i < 0
      · rw [if_neg a, if_pos b] at e
        have := (numL_canon n.natAbs).1 45 (by rw [e]; exact List.mem_cons_self ..)
        omega
      · rw [if_neg a, if_neg b] at e
        have := numL_inj e
        omega
  rw [← this, h2, h1, this]

inductive Cal where
  | greg : Cal
  | jul : Cal
  | cyc : Int → List (List Int) → Cal
def LP : List Int := [31, 29, 31, 30, 31, 30, 31, 31, 30, 31, 30, 31]
def MN : List Int := [31, 28, 31, 30, 31, 30, 31, 31, 30, 31, 30, 31]
def leapG (y : Int) : Bool := if y % 100 = 0 then decide (y % 400 = 0) else decide (y % 4 = 0)
def leapJ (y : Int) : Bool := decide (y % 4 = 0)
def MO : Cal → Int → List Int
  | .greg, y => if leapG y = true then LP else MN
  | .jul, y => if leapJ y = true then LP else MN
  | .cyc _ ys, y => ys.getD ((y - 1) % ys.length).toNat []
def LEN (ys : List (List Int)) : Int := (ys.map (·.sum)).sum
def YS : Cal → Int → Int
  | .greg, y => 1 + 365 * (y - 1) + (y - 1) / 4 - (y - 1) / 100 + (y - 1) / 400
  | .jul, y => -1 + 365 * (y - 1) + (y - 1) / 4
  | .cyc f ys, y => f + (y - 1) / ys.length * LEN ys + LEN (ys.take ((y - 1) % ys.length).toNat)
def COk : Cal → Prop
  | .cyc f ys => -100000 ≤ f ∧ f ≤ 100000 ∧ 1 ≤ ys.length ∧ ys.length ≤ 8 ∧ ∀ y ∈ ys, 1 ≤ y.length ∧ y.length ≤ 14 ∧ ∀ n ∈ y, 1 ≤ n ∧ n ≤ 60
  | _ => True
theorem sum_pos : ∀ {l : List Int}, (∀ n ∈ l, 1 ≤ n) → (l.length : Int) ≤ l.sum
  | [], _ => by decide
  | a :: r, h => by
    have h1 := h a (List.mem_cons_self ..)
    have h2 := sum_pos (l := r) fun n hn => h n (List.mem_cons_of_mem _ hn)
    rw [List.sum_cons, List.length_cons]
    omega
theorem sum_le : ∀ {l : List Int}, (∀ n ∈ l, n ≤ 60) → l.sum ≤ 60 * (l.length : Int)
  | [], _ => by decide
  | a :: r, h => by
    have h1 := h a (List.mem_cons_self ..)
    have h2 := sum_le (l := r) fun n hn => h n (List.mem_cons_of_mem _ hn)
    rw [List.sum_cons, List.length_cons]
    omega
theorem getD_mem2 {α : Type} {l : List α} {i : Nat} {d : α} (h : i < l.length) : l.getD i d ∈ l := by
  rw [List.getD_eq_getElem?_getD, List.getElem?_eq_getElem h]
  exact List.getElem_mem h
theorem idx_lt {y : Int} {n : Nat} (h : 1 ≤ n) : ((y - 1) % (n : Int)).toNat < n := by
  have h1 := Int.emod_lt_of_pos (y - 1) (show (0 : Int) < n by omega)
  have h2 := Int.emod_nonneg (y - 1) (show (n : Int) ≠ 0 by omega)
  omega
theorem MO_ok {c : Cal} (h : COk c) (y : Int) : 1 ≤ (MO c y).length ∧ (MO c y).length ≤ 14 ∧ ∀ n ∈ MO c y, 1 ≤ n ∧ n ≤ 60 := by
  cases c with
  | greg =>
    have e : MO .greg y = LP ∨ MO .greg y = MN := by
      show (if leapG y = true then LP else MN) = LP ∨ (if leapG y = true then LP else MN) = MN
      split <;> simp
    rcases e with e | e <;> rw [e] <;> exact ⟨by decide, by decide, by decide⟩
  | jul =>
    have e : MO .jul y = LP ∨ MO .jul y = MN := by
      show (if leapJ y = true then LP else MN) = LP ∨ (if leapJ y = true then LP else MN) = MN
      split <;> simp
    rcases e with e | e <;> rw [e] <;> exact ⟨by decide, by decide, by decide⟩
  | cyc f ys =>
    obtain ⟨_, _, h1, _, h2⟩ := h
    exact h2 _ (getD_mem2 (idx_lt h1))
theorem take_succ_sum {l : List Int} {k : Nat} (h : k < l.length) : (l.take (k + 1)).sum = (l.take k).sum + l.getD k 0 := by
  rw [List.take_succ, List.sum_append, List.getD_eq_getElem?_getD, List.getElem?_eq_getElem h]
  simp
theorem LEN_take {ys : List (List Int)} {k : Nat} (h : k < ys.length) : LEN (ys.take (k + 1)) = LEN (ys.take k) + (ys.getD k []).sum := by
  unfold LEN
  rw [List.take_succ, List.map_append, List.sum_append, List.getD_eq_getElem?_getD, List.getElem?_eq_getElem h]
  simp
theorem YS_succ {c : Cal} (h : COk c) (y : Int) : YS c (y + 1) = YS c y + (MO c y).sum := by
  cases c with
  | greg =>
    have e1 : LP.sum = 366 := by decide
    have e2 : MN.sum = 365 := by decide
    show 1 + 365 * (y + 1 - 1) + (y + 1 - 1) / 4 - (y + 1 - 1) / 100 + (y + 1 - 1) / 400 = 1 + 365 * (y - 1) + (y - 1) / 4 - (y - 1) / 100 + (y - 1) / 400 + (if leapG y = true then LP else MN).sum
    unfold leapG
    by_cases h1 : y % 100 = 0
    · rw [if_pos h1]
      by_cases h2 : y % 400 = 0
      · rw [if_pos (decide_eq_true h2), e1]; omega
      · rw [if_neg (by simpa using h2), e2]; omega
    · rw [if_neg h1]
      by_cases h2 : y % 4 = 0
      · rw [if_pos (decide_eq_true h2), e1]; omega
      · rw [if_neg (by simpa using h2), e2]; omega
  | jul =>
    have e1 : LP.sum = 366 := by decide
    have e2 : MN.sum = 365 := by decide
    show -1 + 365 * (y + 1 - 1) + (y + 1 - 1) / 4 = -1 + 365 * (y - 1) + (y - 1) / 4 + (if leapJ y = true then LP else MN).sum
    unfold leapJ
    by_cases h2 : y % 4 = 0
    · rw [if_pos (decide_eq_true h2), e1]; omega
    · rw [if_neg (by simpa using h2), e2]; omega
  | cyc f ys =>
    obtain ⟨_, _, h1, _, _⟩ := h
    have hp : (0 : Int) < ys.length := by omega
    have hr1 := Int.emod_lt_of_pos (y - 1) hp
    have hr2 := Int.emod_nonneg (y - 1) (show (ys.length : Int) ≠ 0 by omega)
    have hd := Int.mul_ediv_add_emod (y - 1) ys.length
    show f + (y + 1 - 1) / ys.length * LEN ys + LEN (ys.take ((y + 1 - 1) % ys.length).toNat) = f + (y - 1) / ys.length * LEN ys + LEN (ys.take ((y - 1) % ys.length).toNat) + (ys.getD ((y - 1) % ys.length).toNat []).sum
    generalize hq : (y - 1) / (ys.length : Int) = q at *
    generalize hr : (y - 1) % (ys.length : Int) = r at *
    by_cases hl : r + 1 < ys.length
    · have e : y + 1 - 1 = (r + 1) + ys.length * q := by omega
      have e1 : (y + 1 - 1) / (ys.length : Int) = q := by
        rw [e, Int.add_mul_ediv_left _ _ (by omega), Int.ediv_eq_zero_of_lt (by omega) hl, Int.zero_add]
      have e2 : (y + 1 - 1) % (ys.length : Int) = r + 1 := by
        rw [e, Int.add_mul_emod_self_left, Int.emod_eq_of_lt (by omega) hl]
      rw [e1, e2]
      have e3 : (r + 1).toNat = r.toNat + 1 := by omega
      rw [e3, LEN_take (by omega)]
      omega
    · have e : y + 1 - 1 = 0 + ys.length * (q + 1) := by
        rw [Int.mul_add]; omega
      have e1 : (y + 1 - 1) / (ys.length : Int) = q + 1 := by
        rw [e, Int.add_mul_ediv_left _ _ (by omega)]; simp
      have e2 : (y + 1 - 1) % (ys.length : Int) = 0 := by
        rw [e, Int.add_mul_emod_self_left]; simp
      rw [e1, e2]
      have e4 : LEN ys = LEN (ys.take r.toNat) + (ys.getD r.toNat []).sum := by
        rw [← LEN_take (by omega), List.take_of_length_le (by omega)]
      rw [Int.add_mul]
      show f + (q * LEN ys + 1 * LEN ys) + 0 = _
      omega
theorem YS_lt {c : Cal} (h : COk c) (y : Int) : YS c y < YS c (y + 1) := by
  have h1 := MO_ok h y
  have h2 := sum_pos fun n hn => (h1.2.2 n hn).1
  rw [YS_succ h]
  omega
theorem YS_mono {c : Cal} (h : COk c) (y : Int) : ∀ n : Nat, YS c y + n ≤ YS c (y + n)
  | 0 => by simp
  | n + 1 => by
    have h1 := YS_mono h y n
    have h2 := YS_lt h (y + n)
    have e : y + ((n + 1 : Nat) : Int) = y + n + 1 := by omega
    rw [e]
    omega
theorem YS_uniq {c : Cal} (h : COk c) {y z t : Int} (h1 : YS c y ≤ t) (h2 : t < YS c (y + 1)) (h3 : YS c z ≤ t) (h4 : t < YS c (z + 1)) : y = z := by
  rcases Int.lt_trichotomy y z with l | l | l
  · have := YS_mono h (y + 1) (z - (y + 1)).toNat
    have e : y + 1 + ((z - (y + 1)).toNat : Int) = z := by omega
    rw [e] at this
    omega
  · exact l
  · have := YS_mono h (z + 1) (y - (z + 1)).toNat
    have e : z + 1 + ((y - (z + 1)).toNat : Int) = y := by omega
    rw [e] at this
    omega
/-- day t is the date (y, k + 1, d) -/
def IsD (c : Cal) (y : Int) (k : Nat) (d t : Int) : Prop := k < (MO c y).length ∧ 1 ≤ d ∧ d ≤ (MO c y).getD k 0 ∧ t = YS c y + ((MO c y).take k).sum + d - 1
theorem take_sum_nn {l : List Int} (h : ∀ n ∈ l, 1 ≤ n) (k : Nat) : 0 ≤ (l.take k).sum := by
  have := sum_pos (l := l.take k) fun n hn => h n (List.mem_of_mem_take hn)
  omega
theorem take_sum_le {l : List Int} (h : ∀ n ∈ l, 1 ≤ n) {j k : Nat} (hjk : j ≤ k) : (l.take j).sum ≤ (l.take k).sum := by
  have e : l.take k = l.take j ++ (l.drop j).take (k - j) := by
    rw [← List.take_add]
    congr 1
    omega
  rw [e, List.sum_append]
  have := take_sum_nn (l := l.drop j) (fun n hn => h n (List.mem_of_mem_drop hn)) (k - j)
  omega
theorem IsD.yr {c : Cal} {y : Int} {k : Nat} {d t : Int} (hc : COk c) (h : IsD c y k d t) : YS c y ≤ t ∧ t < YS c (y + 1) := by
  obtain ⟨h1, h2, h3, h4⟩ := h
  have m := MO_ok hc y
  have p := take_sum_nn (fun n hn => (m.2.2 n hn).1) k
  have q := take_sum_le (fun n hn => (m.2.2 n hn).1) (show k + 1 ≤ (MO c y).length from h1)
  rw [take_succ_sum h1, List.take_length] at q
  rw [YS_succ hc]
  omega
theorem IsD.uniq {c : Cal} {y z : Int} {k j : Nat} {d e t : Int} (hc : COk c) (h : IsD c y k d t) (g : IsD c z j e t) : y = z ∧ k = j ∧ d = e := by
  obtain ⟨a1, a2⟩ := h.yr hc
  obtain ⟨b1, b2⟩ := g.yr hc
  obtain rfl := YS_uniq hc a1 a2 b1 b2
  obtain ⟨h1, h2, h3, h4⟩ := h
  obtain ⟨g1, g2, g3, g4⟩ := g
  have m := MO_ok hc y
  have mm : ∀ n ∈ MO c y, 1 ≤ n := fun n hn => (m.2.2 n hn).1
  rcases Nat.lt_trichotomy k j with l | l | l
  · have q := take_sum_le mm (show k + 1 ≤ j from l)
    rw [take_succ_sum h1] at q
    omega
  · subst l
    exact ⟨rfl, rfl, by omega⟩
  · have q := take_sum_le mm (show j + 1 ≤ k from l)
    rw [take_succ_sum g1] at q
    omega
theorem getD_pos {l : List Int} (h : ∀ n ∈ l, 1 ≤ n) {k : Nat} (hk : k < l.length) : 1 ≤ l.getD k 0 := h _ (getD_mem2 hk)
theorem IsD.next1 {c : Cal} {y : Int} {k : Nat} {d t : Int} (h : IsD c y k d t) (hd : d < (MO c y).getD k 0) : IsD c y k (d + 1) (t + 1) := by
  obtain ⟨h1, h2, h3, h4⟩ := h
  exact ⟨h1, by omega, by omega, by omega⟩
theorem IsD.next2 {c : Cal} {y : Int} {k : Nat} {d t : Int} (hc : COk c) (h : IsD c y k d t) (hd : ¬ d < (MO c y).getD k 0) (hk : k + 1 < (MO c y).length) : IsD c y (k + 1) 1 (t + 1) := by
  obtain ⟨h1, h2, h3, h4⟩ := h
  have m := MO_ok hc y
  refine ⟨hk, by omega, getD_pos (fun n hn => (m.2.2 n hn).1) hk, ?_⟩
  rw [take_succ_sum h1]
  omega
theorem IsD.next3 {c : Cal} {y : Int} {k : Nat} {d t : Int} (hc : COk c) (h : IsD c y k d t) (hd : ¬ d < (MO c y).getD k 0) (hk : ¬ k + 1 < (MO c y).length) : IsD c (y + 1) 0 1 (t + 1) := by
  obtain ⟨h1, h2, h3, h4⟩ := h
  have m := MO_ok hc (y + 1)
  refine ⟨by omega, by omega, getD_pos (fun n hn => (m.2.2 n hn).1) (by omega), ?_⟩
  have e : ((MO c y).take (k + 1)).sum = (MO c y).sum := by rw [List.take_of_length_le (by omega)]
  rw [take_succ_sum h1] at e
  rw [YS_succ hc]
  simp
  omega
theorem LEN_nn : ∀ {ys : List (List Int)}, (∀ y ∈ ys, 1 ≤ y.length ∧ y.length ≤ 14 ∧ ∀ n ∈ y, 1 ≤ n ∧ n ≤ 60) → (ys.length : Int) ≤ LEN ys ∧ LEN ys ≤ 840 * (ys.length : Int)
  | [], _ => ⟨by decide, by decide⟩
  | y :: r, h => by
    obtain ⟨a1, a2, a3⟩ := h y (List.mem_cons_self ..)
    have ih := LEN_nn (ys := r) fun z hz => h z (List.mem_cons_of_mem _ hz)
    have s1 := sum_pos fun n hn => (a3 n hn).1
    have s2 := sum_le fun n hn => (a3 n hn).2
    unfold LEN at ih ⊢
    rw [List.map_cons, List.sum_cons, List.length_cons]
    omega
theorem LEN_b {ys : List (List Int)} (h2 : ys.length ≤ 8) (h3 : ∀ y ∈ ys, 1 ≤ y.length ∧ y.length ≤ 14 ∧ ∀ n ∈ y, 1 ≤ n ∧ n ≤ 60) : 0 ≤ LEN ys ∧ LEN ys ≤ 6720 := by
  have := LEN_nn h3
  omega
def tupI (l : List Int) : D := .tuple (l.map .int)
def calD : Cal → D
  | .greg => .str "gregorian"
  | .jul => .str "julian"
  | .cyc f ys => .tuple [.int f, .tuple (ys.map tupI)]
theorem cal_ok (f : Int) (ys : List (List Int)) : okD (.tuple [.int f, .tuple (ys.map tupI)]) = true :=
  okD_of (n := 3) (pn_tup (pna_cons pn_int (pna_cons (pn_tup (pna_all fun x hx => by
    obtain ⟨y, _, rfl⟩ := List.mem_map.mp hx
    exact pn_tup (pna_all fun z hz => by obtain ⟨i, _, rfl⟩ := List.mem_map.mp hz; exact pn_int))) pna_nil))) (by decide)
theorem okG : okD (.str "gregorian") = true := by decide +kernel
theorem okJ : okD (.str "julian") = true := by decide +kernel
theorem v_gg {Q : D → Prop} (q : Q (.bool true)) : VAL (fEqD (.str "gregorian") (.str "gregorian")) Q := v_eqD okG okG (by rw [eqv_refl _ rfl]; exact q)
theorem v_jj {Q : D → Prop} (q : Q (.bool true)) : VAL (fEqD (.str "julian") (.str "julian")) Q := v_eqD okJ okJ (by rw [eqv_refl _ rfl]; exact q)
theorem v_jg {Q : D → Prop} (q : Q (.bool false)) : VAL (fEqD (.str "julian") (.str "gregorian")) Q := v_eqD okJ okG (by rw [show PyData.eqv (.str "julian") (.str "gregorian") = false by simp only [PyData.eqv]; decide +kernel]; exact q)
theorem v_cg {f : Int} {ys : List (List Int)} {Q : D → Prop} (q : Q (.bool false)) : VAL (fEqD (.tuple [.int f, .tuple (ys.map tupI)]) (.str "gregorian")) Q := v_eqD (cal_ok f ys) okG (by simp only [PyData.eqv]; exact q)
theorem v_cj {f : Int} {ys : List (List Int)} {Q : D → Prop} (q : Q (.bool false)) : VAL (fEqD (.tuple [.int f, .tuple (ys.map tupI)]) (.str "julian")) Q := v_eqD (cal_ok f ys) okJ (by simp only [PyData.eqv]; exact q)
theorem cut_to {xs : List D} {n : Int} (h0 : 0 ≤ n) (h : n ≤ xs.length) : Mi.cutD xs none (some n) = xs.take n.toNat := by
  unfold Mi.cutD
  rw [HT.sIx_none, List.drop_zero, Nat.sub_zero]
  have : HT.sIx xs.length xs.length (some n) = n.toNat := by
    unfold HT.sIx
    dsimp only
    rw [if_neg (by omega)]
    omega
  rw [this]
theorem at_getD {l : List Int} {i : Int} (h0 : 0 ≤ i) (h : i.toNat < l.length) : atI (l.map PyData.int) i = some (.int (l.getD i.toNat 0)) := by
  have e : ((i.toNat : Nat) : Int) = i := by omega
  have h2 : (l.map PyData.int)[i.toNat]? = some (.int (l.getD i.toNat 0)) := by
    rw [List.getElem?_map, List.getD_eq_getElem?_getD, List.getElem?_eq_getElem h]
    rfl
  have := atI_nat h2
  rw [e] at this
  exact this
theorem at_getY {l : List (List Int)} {i : Int} (h0 : 0 ≤ i) (h : i.toNat < l.length) : atI (l.map tupI) i = some (tupI (l.getD i.toNat [])) := by
  have e : ((i.toNat : Nat) : Int) = i := by omega
  have h2 : (l.map tupI)[i.toNat]? = some (tupI (l.getD i.toNat [])) := by
    rw [List.getElem?_map, List.getD_eq_getElem?_getD, List.getElem?_eq_getElem h]
    rfl
  have := atI_nat h2
  rw [e] at this
  exact this
set_option maxHeartbeats 4000000 in
theorem len_go {ys : List (List Int)} {Q : D → Prop} (hl : ys.length < 1000) (q : Q (.int (LEN ys))) : SatP (runP 2 m__length_of [.tuple (ys.map tupI)]) Q := by
  refine run_P ?_
  walk_at "env"
  unfold m__length_of
  walk_at "mo"
  refine lc_mt ys tupI (fun y => .int y.sum) rfl (by omega) (fun y hy => ?_) ?_
  · walk_at "mo"
    refine v_sumT ?_
    walk_at "mo"
    refine ⟨rfl, ?_⟩
    walk_at "mo"
    rfl
  · have e : ys.map (fun y => PyData.int y.sum) = (ys.map (·.sum)).map .int := by rw [List.map_map]; rfl
    rw [e]
    walk_at "mo"
    refine v_sum ?_
    walk_at "mo"
    exact q
set_option maxHeartbeats 4000000 in
theorem leapG_go {y : Int} {Q : D → Prop} (q : Q (.bool (leapG y))) : SatP (runP 2 m__is_leap [.str "gregorian", .int y]) Q := by
  refine run_P ?_
  walk_at "env"
  unfold m__is_leap
  walk_at "mo"
  unfold leapG at q
  refine if_c (fun h => ?_) (fun h => ?_)
  · rw [if_pos h] at q
    walk_at "mo"
    exact q
  · rw [if_neg h] at q
    walk_at "mo"
    exact q
set_option maxHeartbeats 4000000 in
theorem leapJ_go {y : Int} {Q : D → Prop} (q : Q (.bool (leapJ y))) : SatP (runP 2 m__is_leap [.str "julian", .int y]) Q := by
  refine run_P ?_
  walk_at "env"
  unfold m__is_leap
  walk_at "mo"
  exact q
set_option maxHeartbeats 4000000 in
theorem mo_go {c : Cal} {y : Int} {Q : D → Prop} (hc : COk c) (q : Q (tupI (MO c y))) : SatP (runP 3 m_months_of [calD c, .int y]) Q := by
  cases c with
  | greg =>
    refine run_P ?_
    unfold calD
    walk_at "env"
    unfold m_months_of
    walk_at "mo"
    refine ⟨_, isi_ts, ?_⟩
    walk_at "mo"
    refine leapG_go ?_
    walk_at "mo"
    have q : Q (tupI (if leapG y = true then LP else MN)) := q
    refine if_split (fun h => ?_) (fun h => ?_)
    · rw [if_pos h] at q
      walk_at "mo"
      exact q
    · rw [if_neg (by rw [h]; decide)] at q
      walk_at "mo"
      exact q
  | jul =>
    refine run_P ?_
    unfold calD
    walk_at "env"
    unfold m_months_of
    walk_at "mo"
    refine ⟨_, isi_ts, ?_⟩
    walk_at "mo"
    refine leapJ_go ?_
    walk_at "mo"
    have q : Q (tupI (if leapJ y = true then LP else MN)) := q
    refine if_split (fun h => ?_) (fun h => ?_)
    · rw [if_pos h] at q
      walk_at "mo"
      exact q
    · rw [if_neg (by rw [h]; decide)] at q
      walk_at "mo"
      exact q
  | cyc f ys =>
    obtain ⟨_, _, h1, _, _⟩ := hc
    have hp : (0 : Int) < ys.length := by omega
    have hr1 := Int.emod_lt_of_pos (y - 1) hp
    have hr2 := Int.emod_nonneg (y - 1) (show (ys.length : Int) ≠ 0 by omega)
    refine run_P ?_
    unfold calD
    walk_at "env"
    unfold m_months_of
    walk_at "mo"
    refine ⟨_, isi_tt, ?_⟩
    walk_at "mo"
    rw [List.length_map]
    walk_at "mo"
    refine v_ixT (at_getY hr2 (by omega)) ?_
    walk_at "mo"
    exact q
set_option maxHeartbeats 8000000 in
theorem ys_go {c : Cal} {y : Int} {Q : D → Prop} (hc : COk c) (q : Q (.int (YS c y))) : SatP (runP 7 m_year_start [calD c, .int y]) Q := by
  cases c with
  | greg =>
    refine run_P ?_
    unfold calD
    walk_at "env"
    unfold m_year_start
    walk_at "mo"
    refine v_gg ?_
    walk_at "mo"
    exact q
  | jul =>
    refine run_P ?_
    unfold calD
    walk_at "env"
    unfold m_year_start
    walk_at "mo"
    refine v_jg ?_
    walk_at "mo"
    refine v_jj ?_
    walk_at "mo"
    exact q
  | cyc f ys =>
    obtain ⟨_, _, h1, h2, h3⟩ := hc
    have hp : (0 : Int) < ys.length := by omega
    have hr1 := Int.emod_lt_of_pos (y - 1) hp
    have hr2 := Int.emod_nonneg (y - 1) (show (ys.length : Int) ≠ 0 by omega)
    have hL := LEN_b h2 h3
    refine run_P ?_
    unfold calD
    walk_at "env"
    unfold m_year_start
    walk_at "mo"
    refine v_cg ?_
    walk_at "mo"
    refine v_cj ?_
    walk_at "mo"
    rw [List.length_map]
    walk_at "mo"
    rw [cut_to hr2 (by rw [List.length_map]; omega), ← List.map_take]
    walk_at "mo"
    refine len_go (by omega) ?_
    walk_at "mo"
    refine len_go (by rw [List.length_take]; omega) ?_
    walk_at "mo"
    exact q
theorem k_ex : ∀ {l : List Int}, (∀ n ∈ l, 1 ≤ n) → ∀ {r : Int}, 0 ≤ r → r < l.sum → ∃ k, k < l.length ∧ (l.take k).sum ≤ r ∧ r < (l.take k).sum + l.getD k 0
  | [], _, r, h0, h1 => by simp at h1; omega
  | a :: l, h, r, h0, h1 => by
    rw [List.sum_cons] at h1
    by_cases ha : r < a
    · exact ⟨0, by simp, by simpa using h0, by simpa using ha⟩
    · obtain ⟨k, k1, k2, k3⟩ := k_ex (l := l) (fun n hn => h n (List.mem_cons_of_mem _ hn)) (r := r - a) (by omega) (by omega)
      refine ⟨k + 1, by simpa using k1, ?_, ?_⟩
      · rw [List.take_succ_cons, List.sum_cons]; omega
      · rw [List.take_succ_cons, List.sum_cons, List.getD_cons_succ]; omega
theorem yr_up {c : Cal} {t : Int} : ∀ (n : Nat) (a : Int), YS c a ≤ t → t < YS c (a + n) → ∃ y, YS c y ≤ t ∧ t < YS c (y + 1)
  | 0, a, h1, h2 => by rw [show a + ((0 : Nat) : Int) = a by simp] at h2; omega
  | n + 1, a, h1, h2 => by
    by_cases h : t < YS c (a + 1)
    · exact ⟨a, h1, h⟩
    · exact yr_up n (a + 1) (by omega) (by rw [show a + 1 + (n : Int) = a + ((n + 1 : Nat) : Int) by omega]; exact h2)
theorem yr_ex {c : Cal} (hc : COk c) (t : Int) : ∃ y, YS c y ≤ t ∧ t < YS c (y + 1) := by
  have d := YS_mono hc (0 - ((YS c 0 - t).toNat : Int)) (YS c 0 - t).toNat
  rw [show 0 - ((YS c 0 - t).toNat : Int) + ((YS c 0 - t).toNat : Int) = 0 by omega] at d
  have u := YS_mono hc (0 - ((YS c 0 - t).toNat : Int)) (t - YS c (0 - ((YS c 0 - t).toNat : Int)) + 1).toNat
  exact yr_up (t - YS c (0 - ((YS c 0 - t).toNat : Int)) + 1).toNat (0 - ((YS c 0 - t).toNat : Int)) (by omega) (by omega)
theorem EX {c : Cal} (hc : COk c) (t : Int) : ∃ y k d, IsD c y k d t := by
  obtain ⟨y, h1, h2⟩ := yr_ex hc t
  have m := MO_ok hc y
  rw [YS_succ hc] at h2
  obtain ⟨k, k1, k2, k3⟩ := k_ex (fun n hn => (m.2.2 n hn).1) (r := t - YS c y) (by omega) (by omega)
  exact ⟨y, k, t - YS c y - ((MO c y).take k).sum + 1, k1, by omega, by omega, by omega⟩
def FLAW (c : Cal) (y m d : Int) : Str :=
  if ¬ (-10000 ≤ y ∧ y ≤ 10000) then ("year" : Str) else if ¬ (1 ≤ m ∧ m ≤ (MO c y).length) then ("month" : Str) else if 1 ≤ d ∧ d ≤ (MO c y).getD (m - 1).toNat 0 then ("" : Str) else ("day" : Str)
theorem flaw_year {c : Cal} {y m d : Int} (h : ¬ (-10000 ≤ y ∧ y ≤ 10000)) : FLAW c y m d = "year" := by unfold FLAW; rw [if_pos h]
theorem flaw_month {c : Cal} {y m d : Int} (h : -10000 ≤ y ∧ y ≤ 10000) (g : ¬ (1 ≤ m ∧ m ≤ (MO c y).length)) : FLAW c y m d = "month" := by unfold FLAW; rw [if_neg (fun z => z h), if_pos g]
theorem flaw_ok {c : Cal} {y m d : Int} (h : -10000 ≤ y ∧ y ≤ 10000) (g : 1 ≤ m ∧ m ≤ (MO c y).length) (e : 1 ≤ d ∧ d ≤ (MO c y).getD (m - 1).toNat 0) : FLAW c y m d = "" := by unfold FLAW; rw [if_neg (fun z => z h), if_neg (fun z => z g), if_pos e]
theorem flaw_day {c : Cal} {y m d : Int} (h : -10000 ≤ y ∧ y ≤ 10000) (g : 1 ≤ m ∧ m ≤ (MO c y).length) (e : ¬ (1 ≤ d ∧ d ≤ (MO c y).getD (m - 1).toNat 0)) : FLAW c y m d = "day" := by unfold FLAW; rw [if_neg (fun z => z h), if_neg (fun z => z g), if_neg e]
set_option maxHeartbeats 8000000 in
theorem ms_go {c : Cal} {y m : Int} {Q : D → Prop} (hc : COk c) (h0 : 1 ≤ m) (h1 : m - 1 ≤ (MO c y).length) (q : Q (.int (YS c y + ((MO c y).take (m - 1).toNat).sum))) : SatP (runP 3 m_month_start [calD c, .int y, .int m]) Q := by
  refine run_P ?_
  walk_at "env"
  unfold m_month_start
  walk_at "mo"
  refine ys_go hc ?_
  walk_at "mo"
  refine mo_go hc ?_
  unfold tupI
  walk_at "mo"
  rw [cut_to (by omega) (by rw [List.length_map]; omega), ← List.map_take]
  refine v_sumT ?_
  walk_at "mo"
  exact q
def zerr (c : Str) : D := .dict [(.str "code", .str c)]
set_option maxHeartbeats 8000000 in
theorem fault_go {c : Cal} {y m d : Int} {Q : D → Prop} (hc : COk c) (a1 : -10000 ≤ y ∧ y ≤ 10000) (q : Q (.str (FLAW c y m d))) : SatP (runP 6 m_date_fault [calD c, .tuple [.int y, .int m, .int d]]) Q := by
  refine run_P ?_
  walk_at "env"
  unfold m_date_fault
  have mo := MO_ok hc y
  walk_at "mo"
  refine mo_go hc ?_
  unfold tupI
  by_cases b1 : 1 ≤ m
  · walk_at "mo"
    rw [List.length_map]
    by_cases b2 : m ≤ (MO c y).length
    · have a2 : 1 ≤ m ∧ m ≤ (MO c y).length := ⟨b1, b2⟩
      by_cases c1 : 1 ≤ d
      · walk_at "mo"
        refine v_ixT (at_getD (by omega) (by omega)) ?_
        by_cases c2 : d ≤ (MO c y).getD (m - 1).toNat 0
        · walk_at "mo"
          rw [flaw_ok a1 a2 ⟨c1, c2⟩] at q
          exact q
        · walk_at "mo"
          rw [flaw_day a1 a2 fun z => c2 z.2] at q
          exact q
      · walk_at "mo"
        rw [flaw_day a1 a2 fun z => c1 z.1] at q
        exact q
    · walk_at "mo"
      rw [flaw_month a1 fun z => b2 z.2] at q
      exact q
  · walk_at "mo"
    rw [flaw_month a1 fun z => b1 z.1] at q
    exact q
theorem flaw_no {c : Cal} {y m d : Int} (a1 : -10000 ≤ y ∧ y ≤ 10000) (h : FLAW c y m d = "") : (1 ≤ m ∧ m ≤ (MO c y).length) ∧ 1 ≤ d ∧ d ≤ (MO c y).getD (m - 1).toNat 0 := by
  by_cases a2 : 1 ≤ m ∧ m ≤ (MO c y).length
  · by_cases a3 : 1 ≤ d ∧ d ≤ (MO c y).getD (m - 1).toNat 0
    · exact ⟨a2, a3⟩
    · rw [flaw_day a1 a2 a3] at h
      exact absurd h (by decide)
  · rw [flaw_month a1 a2] at h
    exact absurd h (by decide)
set_option maxHeartbeats 8000000 in
theorem dayX_go {c : Cal} {y m d : Int} {Q : D → Prop} {X : Str → D → Prop} (hc : COk c) (q : FLAW c y m d = "" → ∀ t, 1 ≤ m → IsD c y (m - 1).toNat d t → Q (.int t)) (x : FLAW c y m d ≠ "" → X "DateError" (zerr (FLAW c y m d))) : SatX (runP 6 m_day_of [calD c, .tuple [.int y, .int m, .int d]]) Q X := by
  refine run_X ?_
  walk_at "env"
  unfold m_day_of
  by_cases a1 : -10000 ≤ y ∧ y ≤ 10000
  · walk_at "mo"
    refine fault_go hc a1 ?_
    walk_at "mo"
    refine if_nc (fun g => ?_) (fun g => ?_)
    · obtain ⟨a2, c1, c2⟩ := flaw_no a1 g
      walk_at "mo"
      refine ms_go hc (by omega) (by omega) ?_
      walk_at "mo"
      exact q g _ a2.1 ⟨by omega, c1, c2, by omega⟩
    · walk_at "mo"
      exact x g
  · have x2 : X "DateError" (zerr "year") := by
      rw [← flaw_year (c := c) (m := m) (d := d) a1]
      exact x (by rw [flaw_year a1]; decide)
    by_cases b1 : -10000 ≤ y
    · walk_at "mo"
      exact x2
    · walk_at "mo"
      exact x2


end K33

set_option Elab.async false
set_option linter.all false
set_option maxRecDepth 100000
namespace K33
open PySem hiding Env ret
open PySem.Spec PyProof.Rows L2 Mi
/-! patterns, on codes -/
open TL
open PySem.NumText in
theorem val_numL (n : Nat) : digitsVal (numL n) = n := numL_inj (num_val _ (numL_canon n))
def isL (c : Nat) : Bool := decide (c = 89 ∨ c = 77 ∨ c = 68 ∨ c = 72 ∨ c = 78)
def wd (c : Nat) : Nat := if c = 89 then 4 else if isL c = true then 2 else 1
theorem wd_le (c : Nat) : 1 ≤ wd c ∧ wd c ≤ 4 := by unfold wd; split <;> (try split) <;> omega
theorem wd_no {c : Nat} (h : isL c = false) : wd c = 1 := by
  unfold wd
  rw [if_neg (fun z => by subst z; exact absurd h (by decide)), h]
  rfl
theorem wd_L {c : Nat} (h : isL c = true) (n : c ≠ 89) : wd c = 2 := by
  unfold wd
  rw [if_neg n, if_pos h]
abbrev ch (c : Nat) : Str := ⟨#[c]⟩
theorem sY : ("Y" : Str) = ch 89 := by decide +kernel
theorem sM : ("M" : Str) = ch 77 := by decide +kernel
theorem sD : ("D" : Str) = ch 68 := by decide +kernel
theorem sH : ("H" : Str) = ch 72 := by decide +kernel
theorem sN : ("N" : Str) = ch 78 := by decide +kernel
theorem ch_inj {a b : Nat} : (ch a = ch b) ↔ a = b := ⟨fun h => by injection h with h; simpa using h, fun h => by rw [h]⟩
abbrev KV : List (Str × Int) := [("Y", 4), ("M", 2), ("D", 2), ("H", 2), ("N", 2)]
theorem kv (c : Nat) : valI KV (ch c) = if isL c = true then some (wd c : Int) else none := by
  unfold KV valI
  rw [sY, sM, sD, sH, sN]
  by_cases h1 : c = 89
  · subst h1; decide
  by_cases h2 : c = 77
  · subst h2; decide
  by_cases h3 : c = 68
  · subst h3; decide
  by_cases h4 : c = 72
  · subst h4; decide
  by_cases h5 : c = 78
  · subst h5; decide
  have e : isL c = false := decide_eq_false (by omega)
  rw [e]
  have d : ∀ k, k ≠ c → decide (ch k = ch c) = false := fun k hk => decide_eq_false fun z => hk (ch_inj.mp z)
  simp only [List.find?_cons, List.find?_nil, d 89 (Ne.symm h1), d 77 (Ne.symm h2), d 68 (Ne.symm h3), d 72 (Ne.symm h4), d 78 (Ne.symm h5)]
  rfl
theorem kv_some (c : Nat) : (valI KV (ch c)).isSome = isL c := by
  rw [kv]
  cases isL c <;> rfl
theorem in_word {w : Str} {l : List Nat} (h : w.cps.toList = l) (c : Nat) : inS (ch c) w = decide (c ∈ l) := by
  show (!(PySem.Builtin.Str.occurrences w ⟨#[c]⟩ 0 w.length 1).isEmpty) = _
  rw [PySem.StrLaws.found_one, h]
theorem sYMDHN : ("YMDHN" : Str).cps.toList = [89, 77, 68, 72, 78] := by decide +kernel
theorem sDigs : ("0123456789" : Str).cps.toList = [48, 49, 50, 51, 52, 53, 54, 55, 56, 57] := by decide +kernel
theorem sCaps : ("0123456789ABCEFGIJKLOPQRSTUVWXZ" : Str).cps.toList = [48, 49, 50, 51, 52, 53, 54, 55, 56, 57, 65, 66, 67, 69, 70, 71, 73, 74, 75, 76, 79, 80, 81, 82, 83, 84, 85, 86, 87, 88, 90] := by decide +kernel
theorem inL (c : Nat) : inS (ch c) "YMDHN" = isL c := by
  rw [in_word sYMDHN]
  unfold isL
  rw [Bool.eq_iff_iff, decide_eq_true_eq, decide_eq_true_eq]
  simp only [List.mem_cons, List.not_mem_nil, or_false]
theorem inDig (c : Nat) : inS (ch c) "0123456789" = decide (48 ≤ c ∧ c ≤ 57) := by
  rw [in_word sDigs, Bool.eq_iff_iff, decide_eq_true_eq, decide_eq_true_eq]
  simp only [List.mem_cons, List.not_mem_nil, or_false]
  omega
def isC (c : Nat) : Bool := decide ((65 ≤ c ∧ c ≤ 90) ∨ (48 ≤ c ∧ c ≤ 57))
theorem inCaps (c : Nat) : inS (ch c) "0123456789ABCEFGIJKLOPQRSTUVWXZ" = (isC c && !isL c) := by
  rw [in_word sCaps]
  unfold isC isL
  rw [Bool.eq_iff_iff, Bool.and_eq_true, Bool.not_eq_true', decide_eq_true_eq, decide_eq_true_eq, decide_eq_false_iff_not]
  simp only [List.mem_cons, List.not_mem_nil, or_false]
  omega
theorem le_ch (a c : Nat) : (!decide ((ch c).cps.toList < (ch a).cps.toList)) = decide (a ≤ c) := by
  show (!decide ([c] < [a])) = _
  have : ([c] < [a]) ↔ c < a := by
    rw [List.cons_lt_cons_iff]
    simp
  by_cases h : a ≤ c
  · rw [decide_eq_true h, decide_eq_false (fun z => by have := this.mp z; omega)]; rfl
  · rw [decide_eq_false h, decide_eq_true (this.mpr (by omega))]; rfl
def fit (c x : Nat) : Bool := if isL c = true then decide (48 ≤ x ∧ x ≤ 57) else decide (x = c)
def good (T : List Nat) (c k : Nat) : Bool := match T[k]? with
  | some x => fit c x
  | none => false
def fb (T : List Nat) (c : Nat) : Nat → Nat → Option Nat
  | _, 0 => none
  | a, n + 1 => if good T c a = true then fb T c (a + 1) n else some a
open PySem.NumText in
def numA (T : List Nat) (a w : Nat) : Int := (digitsVal ((T.drop a).take w) : Nat)
def upd (g : Nat → Option Int) (c : Nat) (i : Int) : Nat → Option Int := fun x => if x = c then some i else g x
def step (T : List Nat) (g : Nat → Option Int) (a c : Nat) : Nat → Option Int := if isL c = true then upd g c (numA T a (wd c)) else g
def RD (T : List Nat) : (Nat → Option Int) → Nat → List Nat → Nat ⊕ (Nat × (Nat → Option Int))
  | g, a, [] => .inr (a, g)
  | g, a, c :: cs => match fb T c a (wd c) with
    | some k => .inl k
    | none => RD T (step T g a c) (a + wd c) cs
def G (g : Nat → Option Int) (c : Nat) : Int := (g c).getD 0
def g0 : Nat → Option Int := upd (upd (fun _ => none) 72 0) 78 0
theorem fb_good {T : List Nat} {c : Nat} : ∀ {n a : Nat}, fb T c a n = none → ∀ j, j < n → good T c (a + j) = true
  | 0, a, h, j, hj => by omega
  | n + 1, a, h, j, hj => by
    unfold fb at h
    by_cases g : good T c a = true
    · rw [if_pos g] at h
      cases j with
      | zero => exact g
      | succ j =>
        have := fb_good h j (by omega)
        rwa [show a + 1 + j = a + (j + 1) by omega] at this
    · rw [if_neg g] at h; cases h
theorem fb_ok {T : List Nat} {c : Nat} : ∀ {n a : Nat}, (∀ j, j < n → good T c (a + j) = true) → fb T c a n = none
  | 0, a, h => rfl
  | n + 1, a, h => by
    unfold fb
    rw [if_pos (show good T c a = true from h 0 (by omega))]
    refine fb_ok fun j hj => ?_
    have := h (j + 1) (by omega)
    rwa [show a + (j + 1) = a + 1 + j by omega] at this
theorem good_lt {T : List Nat} {c k : Nat} (h : good T c k = true) : k < T.length := by
  unfold good at h
  cases z : T[k]? with
  | none => rw [z] at h; cases h
  | some x => exact (List.getElem?_eq_some_iff.mp z).1
theorem fb_len {T : List Nat} {c n a : Nat} (h : fb T c a n = none) (hn : 1 ≤ n) : a + n ≤ T.length := by
  have := good_lt (fb_good h (n - 1) (by omega))
  omega
/-- the digits of a letter's place -/
theorem dig_ok {T : List Nat} {c n a : Nat} (h : fb T c a n = none) (hc : isL c = true) : PySem.NumText.AllDigits ((T.drop a).take n) := by
  intro x hx
  obtain ⟨j, hj⟩ := List.mem_iff_getElem?.mp hx
  have jl : j < n := by
    have := (List.getElem?_eq_some_iff.mp hj).1
    rw [List.length_take] at this
    omega
  rw [List.getElem?_take_of_lt jl, List.getElem?_drop] at hj
  have := fb_good h j jl
  unfold good at this
  rw [hj] at this
  have this : fit c x = true := this
  unfold fit at this
  rw [if_pos hc] at this
  exact of_decide_eq_true this
theorem RD_has {T : List Nat} {c : Nat} : ∀ (cs : List Nat) (g : Nat → Option Int) (a : Nat) (b : Nat) (g' : Nat → Option Int), RD T g a cs = .inr (b, g') → ((g c).isSome = true ∨ (c ∈ cs ∧ isL c = true)) → (g' c).isSome = true
  | [], g, a, b, g', h, hc => by
    unfold RD at h
    injection h with h
    injection h with h1 h2
    subst h2
    rcases hc with hc | hc
    · exact hc
    · exact absurd hc.1 List.not_mem_nil
  | d :: cs, g, a, b, g', h, hc => by
    unfold RD at h
    cases z : fb T d a (wd d) with
    | some k => rw [z] at h; cases h
    | none =>
      rw [z] at h
      refine RD_has cs _ _ b g' h ?_
      by_cases e : d = c
      · subst e
        left
        unfold step
        rcases hc with hc | hc
        · split
          · unfold upd; rw [if_pos rfl]; rfl
          · exact hc
        · rw [if_pos hc.2]; unfold upd; rw [if_pos rfl]; rfl
      · rcases hc with hc | hc
        · left
          unfold step
          split
          · unfold upd; rw [if_neg (Ne.symm e)]; exact hc
          · exact hc
        · right
          rcases List.mem_cons.mp hc.1 with q | q
          · exact absurd q.symm e
          · exact ⟨q, hc.2⟩
/-! a text written -/
def piece (v : Nat → Nat) (c : Nat) : List Nat := if isL c = true then List.replicate (wd c - (numL (v c)).length) 48 ++ numL (v c) else [c]
def Wr (v : Nat → Nat) (cs : List Nat) : List Nat := cs.flatMap (piece v)
theorem piece_len {v : Nat → Nat} {c : Nat} (h : isL c = true → (numL (v c)).length ≤ wd c) : (piece v c).length = wd c := by
  unfold piece
  cases z : isL c with
  | true =>
    have := h z
    rw [if_pos rfl, List.length_append, List.length_replicate]
    omega
  | false => rw [if_neg Bool.false_ne_true, wd_no z]; rfl
open PySem.NumText in
theorem val_zero (k : Nat) (l : List Nat) : digitsVal (List.replicate k 48 ++ l) = digitsVal l := by
  unfold digitsVal
  rw [List.foldl_append]
  congr 1
  induction k with
  | zero => rfl
  | succ k ih => rw [List.replicate_succ, List.foldl_cons]; exact ih
theorem piece_fit {v : Nat → Nat} {c x : Nat} (h : x ∈ piece v c) : fit c x = true := by
  unfold piece at h
  unfold fit
  cases z : isL c with
  | true =>
    rw [z, if_pos rfl] at h
    rw [if_pos rfl]
    rcases List.mem_append.mp h with h | h
    · rw [List.mem_replicate] at h
      rw [h.2]; rfl
    · exact decide_eq_true (numL_digits _ x h)
  | false =>
    rw [z, if_neg Bool.false_ne_true, List.mem_singleton] at h
    rw [if_neg Bool.false_ne_true]
    exact decide_eq_true h
def updAll (v : Nat → Nat) : (Nat → Option Int) → List Nat → (Nat → Option Int)
  | g, [] => g
  | g, c :: cs => updAll v (if isL c = true then upd g c (v c) else g) cs
theorem RD_wr {v : Nat → Nat} : ∀ (cs : List Nat) (pre : List Nat) (g : Nat → Option Int), (∀ c ∈ cs, isL c = true → (numL (v c)).length ≤ wd c) → RD (pre ++ Wr v cs) g pre.length cs = .inr ((pre ++ Wr v cs).length, updAll v g cs)
  | [], pre, g, h => by
    unfold RD Wr updAll
    rw [List.flatMap_nil, List.append_nil]
  | c :: cs, pre, g, h => by
    have pl := piece_len (h c (List.mem_cons_self ..))
    have eW : Wr v (c :: cs) = piece v c ++ Wr v cs := by unfold Wr; rw [List.flatMap_cons]
    have f : fb (pre ++ Wr v (c :: cs)) c pre.length (wd c) = none := by
      refine fb_ok fun j hj => ?_
      unfold good
      rw [List.getElem?_append_right (by omega), Nat.add_sub_cancel_left, eW, List.getElem?_append_left (by omega), List.getElem?_eq_getElem (by omega)]
      exact piece_fit (List.getElem_mem _)
    have nA : isL c = true → numA (pre ++ Wr v (c :: cs)) pre.length (wd c) = v c := fun z => by
      unfold numA
      rw [List.drop_left, eW, ← pl, List.take_left]
      unfold piece
      rw [if_pos z, val_zero, val_numL]
    unfold RD
    rw [f]
    have st : step (pre ++ Wr v (c :: cs)) g pre.length c = if isL c = true then upd g c (v c) else g := by
      unfold step
      cases z : isL c with
      | true => rw [if_pos rfl, if_pos rfl, nA z]
      | false => rfl
    show RD (pre ++ Wr v (c :: cs)) (step (pre ++ Wr v (c :: cs)) g pre.length c) (pre.length + wd c) cs = _
    rw [st, eW, ← List.append_assoc, ← pl, ← List.length_append]
    exact RD_wr cs (pre ++ piece v c) _ fun d hd => h d (List.mem_cons_of_mem _ hd)
theorem updAll_at {v : Nat → Nat} {c : Nat} : ∀ (cs : List Nat) (g : Nat → Option Int), updAll v g cs c = if c ∈ cs ∧ isL c = true then some (v c : Int) else g c
  | [], g => by unfold updAll; rw [if_neg (fun z => List.not_mem_nil z.1)]
  | d :: cs, g => by
    unfold updAll
    rw [updAll_at cs]
    by_cases e : d = c
    · subst e
      cases z : isL d with
      | true =>
        rw [if_pos rfl]
        unfold upd
        rw [if_pos rfl, if_pos (⟨List.mem_cons_self .., rfl⟩ : d ∈ d :: cs ∧ true = true)]
        split <;> rfl
      | false =>
        rw [if_neg (fun z => Bool.false_ne_true z.2), if_neg Bool.false_ne_true, if_neg (fun z => Bool.false_ne_true z.2)]
    · have : (if isL d = true then upd g d (v d) else g) c = g c := by
        split
        · unfold upd; rw [if_neg (Ne.symm e)]
        · rfl
      rw [this]
      have m : c ∈ d :: cs ↔ c ∈ cs := by
        rw [List.mem_cons]
        exact ⟨fun z => z.resolve_left (Ne.symm e), .inr⟩
      simp only [m]
theorem Wr_len {v : Nat → Nat} : ∀ (cs : List Nat), (∀ c ∈ cs, isL c = true → (numL (v c)).length ≤ wd c) → cs.length ≤ (Wr v cs).length ∧ (Wr v cs).length ≤ 4 * cs.length
  | [], h => ⟨Nat.le_refl _, Nat.le_refl _⟩
  | c :: cs, h => by
    have pl := piece_len (h c (List.mem_cons_self ..))
    have := wd_le c
    have ih := Wr_len cs fun d hd => h d (List.mem_cons_of_mem _ hd)
    unfold Wr at ih ⊢
    rw [List.flatMap_cons, List.length_append, List.length_cons]
    omega
/-! right patterns -/
def cn (c : Nat) (cs : List Nat) : Int := PyProof.Rows.cnt c cs
theorem cn_mem {c : Nat} {cs : List Nat} (h : cn c cs = 1) : c ∈ cs := by
  by_cases z : c ∈ cs
  · exact z
  · have := PyProof.Rows.cnt_none c cs z
    unfold cn at h
    omega
def isP (cs : List Nat) : Bool := decide (cs.length ≤ 40) && (decide (cn 89 cs = 1 ∧ cn 77 cs = 1 ∧ cn 68 cs = 1) && (decide (cn 72 cs ≤ 1 ∧ cn 78 cs ≤ 1) && cs.all fun c => !(isC c && !isL c)))
/-! dicts -/
structure KD (kds : List (PyData × PyData)) (g : Nat → Option Int) (n : Nat) : Prop where
  len : kds.length ≤ n
  key : ∀ p ∈ kds, ∃ k, p.1 = kD k
  val : ∀ c, valD kds (.inr (ch c)) = (g c).map .int
theorem val_put {kds : List (PyData × PyData)} {k k' : Key} {d : PyData} (h : ∀ p ∈ kds, ∃ k, p.1 = kD k) : valD (putD kds k d) k' = if k = k' then some d else valD kds k' := by
  unfold putD
  by_cases e : k = k'
  · subst e
    rw [if_pos rfl]
    cases z : (kds.any fun p => eqK p.1 k) with
    | true =>
      rw [if_pos rfl]
      induction kds with
      | nil => cases z
      | cons p kds ih =>
        unfold valD at ih ⊢
        rw [List.map_cons, List.find?_cons]
        cases w : eqK p.1 k with
        | true => rw [if_pos rfl]; show (match eqK p.1 k with | true => _ | false => _ : Option (PyData × PyData)).map _ = _; rw [w]; rfl
        | false =>
          rw [if_neg Bool.false_ne_true]
          show (match eqK p.1 k with | true => _ | false => _ : Option (PyData × PyData)).map _ = _
          rw [w]
          rw [List.any_cons, w, Bool.false_or] at z
          exact ih (fun q hq => h q (List.mem_cons_of_mem _ hq)) z
    | false =>
      rw [if_neg Bool.false_ne_true]
      unfold valD
      have n : (kds.find? fun p => eqK p.1 k) = none := by
        rw [List.find?_eq_none]
        intro p hp w
        have := List.any_eq_false.mp z p hp
        exact this w
      rw [List.find?_append, n]
      show (match eqK (kD k) k with | true => _ | false => _ : Option (PyData × PyData)).map _ = _
      rw [show eqK (kD k) k = true from by rw [eqK_kD]; exact decide_eq_true rfl]
      rfl
  · rw [if_neg e]
    have ek : eqK (kD k) k' = false := by rw [eqK_kD]; exact decide_eq_false e
    cases z : (kds.any fun p => eqK p.1 k) with
    | true =>
      rw [if_pos rfl]
      clear z
      unfold valD
      induction kds with
      | nil => rfl
      | cons p kds ih =>
        have ih := ih fun q hq => h q (List.mem_cons_of_mem _ hq)
        obtain ⟨kp, hk⟩ := h p (List.mem_cons_self ..)
        rw [List.map_cons, List.find?_cons, List.find?_cons]
        have e1 : (if eqK p.1 k = true then (p.1, d) else p).1 = p.1 := by split <;> rfl
        rw [e1]
        cases w : eqK p.1 k' with
        | true =>
          have : eqK p.1 k = false := by
            rw [hk, eqK_kD] at w ⊢
            have w := of_decide_eq_true w
            exact decide_eq_false fun q => e (q.symm.trans w)
          rw [this]
          rfl
        | false => exact ih
    | false =>
      rw [if_neg Bool.false_ne_true]
      unfold valD
      rw [List.find?_append]
      have : ([(kD k, d)].find? fun p => eqK p.1 k') = none := by
        rw [List.find?_cons]
        show (match eqK (kD k) k' with | true => _ | false => _ : Option (PyData × PyData)) = _
        rw [ek]
        rfl
      rw [this, Option.or_none]
theorem KD.put {kds : List (PyData × PyData)} {g : Nat → Option Int} {n : Nat} (h : KD kds g n) (c : Nat) (i : Int) : KD (putD kds (.inr (ch c)) (.int i)) (upd g c i) (n + 1) := by
  refine ⟨?_, ?_, fun x => ?_⟩
  · have := h.len
    unfold putD
    split
    · rw [List.length_map]; omega
    · rw [List.length_append, List.length_singleton]; omega
  · intro p hp
    unfold putD at hp
    split at hp
    · obtain ⟨q, hq, rfl⟩ := List.mem_map.mp hp
      obtain ⟨k, hk⟩ := h.key q hq
      exact ⟨k, by split <;> exact hk⟩
    · rcases List.mem_append.mp hp with hp | hp
      · exact h.key p hp
      · rw [List.mem_singleton] at hp
        exact ⟨_, by rw [hp]⟩
  · rw [val_put h.key, h.val]
    unfold upd
    by_cases e : x = c
    · subst e; rw [if_pos rfl, if_pos rfl]; rfl
    · rw [if_neg e, if_neg fun z => e (by injection z with z; exact (ch_inj.mp z).symm)]
theorem le_hc (b c : Nat) : (!decide ((ch b).cps.toList < (ch c).cps.toList)) = decide (c ≤ b) := le_ch c b
theorem s65 : ("A" : Str) = ⟨#[65]⟩ := by decide +kernel
theorem s90 : ("Z" : Str) = ⟨#[90]⟩ := by decide +kernel
theorem sYMD : ("YMD" : Str).cps.toList = [89, 77, 68] := by decide +kernel
end K33

set_option Elab.async false
set_option linter.all false
set_option maxRecDepth 100000
namespace K33
open PySem hiding Env ret
open PySem.Spec PyProof.Rows L2 Mi
/-! the walk over mirrors -/
local macro_rules | `(tactic| walk_at "lk") => `(tactic| first | exact Mi.lk0 | exact Mi.lk1 | exact Mi.lk2 | exact Mi.lk3 | exact Mi.lk4 | exact Mi.lk5 | exact Mi.lk6 | exact Mi.lk7 | exact Mi.lk8 | exact Mi.lk9 | exact Mi.lk10 | exact Mi.lk11 | exact Mi.lk12 | exact Mi.lk13 | exact Mi.lk14 | exact Mi.lk15 | exact Mi.lk16 | exact Mi.lk17 | exact Mi.lk18 | exact Mi.lk19 | exact Mi.lk20 | exact Mi.lk21 | exact Mi.lk22 | exact Mi.lk23 | exact Mi.lk24 | exact Mi.lk25 | exact Mi.lk26 | exact Mi.lk27 | exact Mi.lk28 | exact Mi.lk29 | exact Mi.lk30 | exact Mi.lk31 | exact Mi.lk32 | exact Mi.lk33 | exact Mi.lk34 | exact Mi.lk35 | exact Mi.lk36 | exact Mi.lk37 | exact Mi.lk38 | exact Mi.lk39)
local macro_rules | `(tactic| walk_at "st") => `(tactic| first | with_reducible refine Mi.st0 ?_ | with_reducible refine Mi.st1 ?_ | with_reducible refine Mi.st2 ?_ | with_reducible refine Mi.st3 ?_ | with_reducible refine Mi.st4 ?_ | with_reducible refine Mi.st5 ?_ | with_reducible refine Mi.st6 ?_ | with_reducible refine Mi.st7 ?_ | with_reducible refine Mi.st8 ?_ | with_reducible refine Mi.st9 ?_ | with_reducible refine Mi.st10 ?_ | with_reducible refine Mi.st11 ?_ | with_reducible refine Mi.st12 ?_ | with_reducible refine Mi.st13 ?_ | with_reducible refine Mi.st14 ?_ | with_reducible refine Mi.st15 ?_ | with_reducible refine Mi.st16 ?_ | with_reducible refine Mi.st17 ?_ | with_reducible refine Mi.st18 ?_ | with_reducible refine Mi.st19 ?_ | with_reducible refine Mi.st20 ?_ | with_reducible refine Mi.st21 ?_ | with_reducible refine Mi.st22 ?_ | with_reducible refine Mi.st23 ?_ | with_reducible refine Mi.st24 ?_ | with_reducible refine Mi.st25 ?_ | with_reducible refine Mi.st26 ?_ | with_reducible refine Mi.st27 ?_ | with_reducible refine Mi.st28 ?_ | with_reducible refine Mi.st29 ?_ | with_reducible refine Mi.st30 ?_ | with_reducible refine Mi.st31 ?_ | with_reducible refine Mi.st32 ?_ | with_reducible refine Mi.st33 ?_ | with_reducible refine Mi.st34 ?_ | with_reducible refine Mi.st35 ?_ | with_reducible refine Mi.st36 ?_ | with_reducible refine Mi.st37 ?_ | with_reducible refine Mi.st38 ?_ | with_reducible refine Mi.st39 ?_)
local macro_rules | `(tactic| walk_at "at") => `(tactic| first | with_reducible assumption | exact Rd.at0 | exact Rd.at1 | exact Rd.at2 | exact Rd.at3 | exact Rd.at4)
local macro_rules | `(tactic| walk_at "side") => `(tactic| first | with_reducible assumption | omega | (constructor <;> omega) | (refine Or.inl ⟨?_, ?_⟩ <;> omega) | (refine Or.inr ⟨?_, ?_⟩ <;> omega) | (simp only [List.length_cons, List.length_nil, List.length_append, List.length_map]; omega) | ((refine ⟨⟨?_, ?_⟩, ?_, ?_⟩) <;> omega))
local macro_rules | `(tactic| walk_at "fn") => `(tactic| fail)
local macro_rules | `(tactic| walk_at "w1") => `(tactic| first
  | ((with_reducible show Mi.SatS _ _ _ _ _ _); (first | with_reducible refine Mi.w_seq ?_ | with_reducible refine Mi.w_retIf ?_ | with_reducible refine Mi.w_retX ?_ | with_reducible refine Mi.w_asgX ?_ | with_reducible refine Mi.w_dropX ?_ | with_reducible refine Mi.w_raise ?_ | with_reducible refine Mi.w_asg ?_ | with_reducible refine Mi.w_ifS ?_ | with_reducible refine Mi.w_drop ?_ | with_reducible refine Mi.w_ret ?_ | with_reducible refine Mi.w_next ?_ | with_reducible refine Mi.w_for ?_ | with_reducible refine Mi.w_retN ?_ | with_reducible refine Mi.w_brk ?_ | with_reducible refine Mi.w_cnt ?_ | with_reducible refine Mi.w_while ?_ | with_reducible refine Mi.w_setO ?_))
  | ((with_reducible show Mi.Sat _ _); (first | ((with_reducible apply Mi.w_val); (walk_at "lk")) | with_reducible refine Mi.w_c ?_ | with_reducible refine Mi.w_op ?_ | with_reducible refine Mi.w_call ?_ | with_reducible refine Mi.w_callI ?_ | with_reducible refine Mi.w_tup ?_ | with_reducible refine Mi.w_getV ?_ | with_reducible refine Mi.w_ixV ?_ | ((with_reducible apply Mi.w_pkv); (walk_at "lk")) | with_reducible refine Mi.w_peek ?_ | with_reducible refine Mi.w_cb ?_ | with_reducible refine Mi.w_lst ?_ | with_reducible refine Mi.w_un ?_ | ((with_reducible apply Mi.w_ownA); (walk_at "lk"); (exact rfl)) | with_reducible refine Mi.w_andV ?_ | with_reducible refine Mi.w_orV ?_ | with_reducible refine Mi.w_notV ?_ | with_reducible refine Mi.w_if ?_ | with_reducible refine Mi.w_chain ?_ | with_reducible refine Mi.w_sl ?_ | with_reducible refine Mi.w_get ?_ | with_reducible refine Mi.w_d0 ?_ | with_reducible refine Mi.w_dict ?_ | with_reducible refine Mi.w_tupS ?_ | with_reducible refine Mi.w_app ?_ | with_reducible refine Mi.w_lcw ?_ | with_reducible refine Mi.w_js1 ?_ | with_reducible refine Mi.w_js0 ?_ | ((with_reducible apply Mi.w_lenO); (walk_at "lk")) | ((with_reducible apply Mi.w_lenv); (walk_at "lk"))))
  | ((with_reducible show Mi.SatT _ _); (first | with_reducible refine Mi.w_B ?_ | with_reducible refine Mi.w_andT ?_ | with_reducible refine Mi.w_orT ?_ | with_reducible refine Mi.w_notT ?_ | with_reducible refine Mi.w_yes ?_))
  | ((with_reducible show Mi.SatA _ _); (first | with_reducible refine Mi.w_nil ?_ | with_reducible refine Mi.w_cons ?_ | with_reducible refine Mi.w_snil ?_ | with_reducible refine Mi.w_sone ?_ | with_reducible refine Mi.w_sstar ?_ | with_reducible refine Mi.w_r1 ?_ | with_reducible refine Mi.w_r2 ?_ | with_reducible refine Mi.w_itL1 ?_ | with_reducible refine Mi.w_itT1 ?_))
  | ((with_reducible show Mi.VAL _ _); (first | with_reducible apply Mi.v_add | with_reducible apply Mi.v_sub | with_reducible apply Mi.v_eqI | with_reducible apply Mi.v_lt | with_reducible apply Mi.v_le | with_reducible apply Mi.v_gt | with_reducible apply Mi.v_ge | with_reducible apply Mi.v_neI | ((with_reducible apply Mi.v_ixL); (walk_at "at")) | ((with_reducible apply Mi.v_ixT); (walk_at "at")) | ((with_reducible apply Mi.v_mul); (walk_at "side")) | ((with_reducible apply Mi.v_div); (walk_at "side")) | ((with_reducible apply Mi.v_mod); (walk_at "side")) | with_reducible apply Mi.v_neg | with_reducible apply Mi.v_eqS | with_reducible apply Mi.v_eqB | with_reducible apply Mi.v_neS | with_reducible apply Mi.v_neB | with_reducible apply Mi.v_eqNI | with_reducible apply Mi.v_neNI | with_reducible apply Mi.v_isN | with_reducible apply Mi.v_notN | with_reducible apply Mi.v_lenL | with_reducible apply Mi.v_lenT | with_reducible apply Mi.v_abs | with_reducible apply Mi.v_int | with_reducible apply Mi.v_intB | with_reducible apply Mi.v_min2 | with_reducible apply Mi.v_max2 | with_reducible apply Mi.v_tupL | with_reducible apply Mi.v_tupT | with_reducible apply Mi.v_lstL | with_reducible apply Mi.v_lstT | with_reducible apply Mi.v_slT | with_reducible apply Mi.v_slL | ((with_reducible apply Mi.v_pow); (decide)) | ((with_reducible apply Mi.v_catL); (walk_at "side")) | ((with_reducible apply Mi.v_catT); (walk_at "side")) | ((with_reducible apply Mi.v_divmod); (walk_at "side")) | ((with_reducible apply Mi.v_fmt2); (walk_at "side")) | walk_at "fn"))
  | ((with_reducible show Mi.IFV _ _ _); (first | with_reducible refine Mi.if_t ?_ | with_reducible refine Mi.if_f ?_ | with_reducible refine Mi.if_nt ?_ | with_reducible refine Mi.if_nf ?_ | with_reducible refine Mi.if_n1 ?_ | with_reducible refine Mi.if_n2 ?_ | with_reducible refine Mi.if_n3 ?_ | with_reducible refine Mi.if_n4 ?_ | with_reducible refine Mi.if_n5 ?_ | with_reducible refine Mi.if_n6 ?_))
  | ((with_reducible show Mi.SETS _ _); (first | walk_at "st" | (with_reducible refine Mi.put_own (by walk_at "lk") ?_) | (with_reducible refine Mi.put_io (by walk_at "lk") ?_)))
  | ((with_reducible show Mi.TG _ _); (first | ((with_reducible apply Mi.tg_n); (exact rfl)) | ((with_reducible apply Mi.tg_t); (exact rfl))))
  | ((with_reducible show Mi.TGS _ _); (first | with_reducible refine Mi.tgs_cons ?_ | with_reducible refine Mi.tgs_nil ?_))
  | ((with_reducible show Mi.LCB _ _ _); (with_reducible apply Mi.lcb); (exact rfl))
  | ((with_reducible show Mi.WIPE _ _); (first | with_reducible refine Mi.wp1 ?_ | with_reducible refine Mi.wp2 ?_ | ((with_reducible refine Mi.rs1 ?_ ?_); (walk_at "lk")) | ((with_reducible refine Mi.rs1v (d := ?_) ?_ ?_); (walk_at "lk")) | ((with_reducible refine Mi.rs2 ?_ ?_ ?_); (walk_at "lk"); (walk_at "lk"))))
  | ((with_reducible show Mi.SETO _ _ _ _); (with_reducible apply Mi.seto); (exact rfl))
  | with_reducible refine Mi.isl ?_
  | ((with_reducible show Mi.APP _ _ _ _ _); (with_reducible apply Mi.app_); (walk_at "side"))
  | ((with_reducible show Mi.LEQ _ _); (with_reducible apply Mi.leq); (walk_at "side"))
  | with_reducible refine Mi.isls ?_
  | with_reducible refine Mi.ists ?_
  | ((with_reducible show Mi.R1 _ _); (with_reducible apply Mi.r1_); (walk_at "side"))
  | ((with_reducible show Mi.R2 _ _); (with_reducible apply Mi.r2_); (walk_at "side"))
  | with_reducible refine Mi.prt ?_
  | with_reducible refine Mi.w_part ?_
  | with_reducible refine Mi.bl_ ?_
  | ((with_reducible show Mi.MU _ _); (with_reducible apply Mi.mu_own); (walk_at "lk"))
  | ((with_reducible show Mi.MU _ _); (with_reducible apply Mi.mu_io); (walk_at "lk"))
  | with_reducible refine Mi.dl_cons ?_
  | with_reducible refine Mi.dl_nil ?_
  | with_reducible refine Mi.w_none ?_
  | with_reducible refine Mi.io_of ?_
  | with_reducible refine Mi.w_itT ?_
  | with_reducible refine Mi.w_itL ?_
  | walk_at "fn")
local macro_rules | `(tactic| walk_at "w") => `(tactic| repeat (walk_at "w1"))
local macro_rules | `(tactic| walk_at "wd") => `(tactic| first
  | ((with_reducible refine Mi.if_p ?_ ?_); (first | with_reducible assumption | exact rfl | decide | omega))
  | ((with_reducible refine Mi.if_m ?_ ?_); (first | with_reducible assumption | exact rfl | decide | omega))
  | ((with_reducible refine Mi.if_np ?_ ?_); (first | with_reducible assumption | exact rfl | decide | omega))
  | ((with_reducible refine Mi.if_nm ?_ ?_); (first | with_reducible assumption | exact rfl | decide | omega)))
local macro_rules | `(tactic| walk_at "mo") => `(tactic| (walk_at "w"; (repeat (walk_at "wd"; walk_at "w"))))
local macro_rules | `(tactic| walk_at "env") => `(tactic| simp only [envP, envI, List.map_cons, List.map_nil, List.length_cons, List.length_nil, List.replicate, List.cons_append, List.nil_append, Nat.reduceAdd, Nat.reduceSub])

local macro_rules | `(tactic| walk_at "fn") => `(tactic| first | ((with_reducible show Mi.VAL _ _); (with_reducible apply Mi.t_left)) | ((with_reducible show Mi.Sat _ _); (with_reducible refine Mi.w_isiE ?_)) | ((with_reducible show Mi.Sat _ _); (with_reducible refine Mi.w_pkR ?_)) | ((with_reducible show Mi.Sat _ _); (with_reducible refine Mi.w_ext ?_)) | ((with_reducible show Mi.EXT _ _ _ _ _); (with_reducible apply Mi.ext_); (walk_at "side")) | ((with_reducible show Mi.SatA _ _); (with_reducible refine Mi.w_r3 ?_)) | ((with_reducible show Mi.Sat _ _); (first | with_reducible refine Mi.w_lr3 ?_ | with_reducible refine Mi.w_pop ?_ | with_reducible refine Mi.w_sj ?_ | with_reducible refine Mi.w_popAt ?_ | with_reducible refine Mi.w_lstS ?_ | with_reducible refine Mi.w_scj ?_ | with_reducible refine Mi.w_lc2 ?_ | with_reducible refine Mi.w_fld ?_ | with_reducible refine Mi.w_meth ?_ | with_reducible refine Mi.w_kg ?_ | with_reducible refine Mi.w_k1 ?_ | with_reducible refine Mi.w_kgI ?_ | with_reducible refine Mi.w_neV ?_ | with_reducible refine Mi.w_dinV ?_ | ((with_reducible apply Mi.w_lstV); (walk_at "lk")) | ((with_reducible apply Mi.w_isiV); (walk_at "lk")) | with_reducible refine Mi.w_m1 ?_ | ((with_reducible refine Mi.w_lcO ?_ ?_); (decide)))) | ((with_reducible show Mi.TG _ _); (with_reducible refine Mi.tg_guard ?_ ?_); (first | exact Mi.mu_own' (by walk_at "lk") | exact Mi.mu_io' (by walk_at "lk"))) | (with_reducible refine Mi.iss ?_) | (with_reducible refine Mi.io_of1 ?_) | ((with_reducible show Mi.SatS _ _ _ _ _ _); (first | with_reducible refine Mi.w_setF ?_ | with_reducible refine Mi.w_new ?_)) | ((with_reducible show Mi.SatA _ _); (first | with_reducible refine Mi.w_enum ?_ | with_reducible refine Mi.w_itS1 ?_ | with_reducible refine Mi.w_enumS ?_ | with_reducible refine Mi.w_zipS ?_)) | ((with_reducible show Mi.ENS _ _); (with_reducible apply Mi.ens_); (walk_at "side")) | ((with_reducible show Mi.ZPS _ _); (with_reducible refine Mi.zps_ ?_)) | ((with_reducible show Mi.KG _ _ _ _); (with_reducible refine Mi.kg_ ?_)) | ((with_reducible show Mi.KGI _ _ _ _); (with_reducible refine Mi.kgi_ ?_)) | ((with_reducible show Mi.VAL _ _); (first | with_reducible apply Mi.v_kin | with_reducible apply Mi.v_count)) | ((with_reducible show Mi.DIK _ _ _ _); (with_reducible refine Mi.dik_ ?_)) | ((with_reducible show Mi.VAL _ _); (with_reducible apply Mi.v_gne)) | ((with_reducible show Mi.TG _ _); (with_reducible apply Mi.tg_l); (exact rfl)) | ((with_reducible show Mi.EN _ _); (with_reducible refine Mi.en_ ?_)) | (with_reducible refine Mi.isst ?_) | ((with_reducible show Mi.VAL _ _); (first | with_reducible apply Mi.v_leS | with_reducible apply Mi.v_inS | with_reducible apply Mi.v_ninS | with_reducible apply Mi.v_start | with_reducible apply Mi.v_ends | with_reducible apply Mi.v_strS | ((with_reducible apply Mi.v_lenS); (walk_at "side")) | ((with_reducible apply Mi.v_ixS); (walk_at "side"); (walk_at "at")) | ((with_reducible apply Mi.v_repL); (walk_at "side")))) | ((with_reducible show Mi.SJ _ _); (with_reducible apply Mi.sj_); (walk_at "side")))
open TL
set_option maxHeartbeats 8000000 in
theorem fits_go {c x : Nat} {Q : PyData → Prop} (q : Q (.bool (fit c x))) : SatP (runP 2 m__fits [.str ⟨#[c]⟩, .str ⟨#[x]⟩]) Q := by
  refine run_P ?_
  walk_at "env"
  unfold m__fits
  walk_at "mo"
  rw [if_neg Bool.false_ne_true, show (valI [(("Y" : Str), (4 : Int)), ("M", 2), ("D", 2), ("H", 2), ("N", 2)] ⟨#[c]⟩).isSome = isL c from kv_some c]
  unfold fit at q
  cases z : isL c with
  | true =>
    rw [z, if_pos rfl] at q
    walk_at "mo"
    rw [s48, le_ch]
    by_cases h : 48 ≤ x
    · rw [decide_eq_true h]
      walk_at "mo"
      rw [s57, show (!decide ((⟨#[57]⟩ : Str).cps.toList < (⟨#[x]⟩ : Str).cps.toList)) = decide (x ≤ 57) from le_hc 57 x]
      rw [show decide (48 ≤ x ∧ x ≤ 57) = decide (x ≤ 57) from by simp [h]] at q
      exact q
    · rw [decide_eq_false h]
      walk_at "mo"
      rw [show decide (48 ≤ x ∧ x ≤ 57) = false from by simp [h]] at q
      exact q
  | false =>
    rw [z, if_neg Bool.false_ne_true] at q
    walk_at "mo"
    rw [show decide ((⟨#[x]⟩ : Str) = ⟨#[c]⟩) = decide (x = c) from by rw [Bool.eq_iff_iff, decide_eq_true_eq, decide_eq_true_eq]; exact ch_inj]
    exact q
set_option maxHeartbeats 8000000 in
theorem cap_go {x : Nat} {Q : PyData → Prop} (q : Q (.bool (isC x))) : SatP (runP 1 m__is_capital_or_digit [.str ⟨#[x]⟩]) Q := by
  have e : isC x = (decide (65 ≤ x) && decide (x ≤ 90) || decide (48 ≤ x) && decide (x ≤ 57)) := by
    unfold isC
    rw [Bool.eq_iff_iff]
    simp
  rw [e] at q
  refine run_P ?_
  walk_at "env"
  unfold m__is_capital_or_digit
  walk_at "mo"
  rw [s65, le_ch]
  cases z1 : decide (65 ≤ x) with
  | true =>
    rw [z1] at q
    walk_at "mo"
    rw [s90, show (!decide ((⟨#[90]⟩ : Str).cps.toList < (⟨#[x]⟩ : Str).cps.toList)) = decide (x ≤ 90) from le_hc 90 x]
    cases z2 : decide (x ≤ 90) with
    | true =>
      rw [z2] at q
      walk_at "mo"
      exact q
    | false =>
      rw [z2] at q
      walk_at "mo"
      rw [s48, le_ch]
      cases z3 : decide (48 ≤ x) with
      | true =>
        rw [z3] at q
        walk_at "mo"
        rw [s57, show (!decide ((⟨#[57]⟩ : Str).cps.toList < (⟨#[x]⟩ : Str).cps.toList)) = decide (x ≤ 57) from le_hc 57 x]
        exact q
      | false =>
        rw [z3] at q
        walk_at "mo"
        exact q
  | false =>
    rw [z1] at q
    walk_at "mo"
    rw [s48, le_ch]
    cases z3 : decide (48 ≤ x) with
    | true =>
      rw [z3] at q
      walk_at "mo"
      rw [s57, show (!decide ((⟨#[57]⟩ : Str).cps.toList < (⟨#[x]⟩ : Str).cps.toList)) = decide (x ≤ 57) from le_hc 57 x]
      exact q
    | false =>
      rw [z3] at q
      walk_at "mo"
      exact q

end K33

set_option Elab.async false
set_option linter.all false
set_option maxRecDepth 100000
namespace K33
open PySem hiding Env ret
open PySem.Spec PyProof.Rows L2 Mi
/-! the walk over mirrors -/
local macro_rules | `(tactic| walk_at "lk") => `(tactic| first | exact Mi.lk0 | exact Mi.lk1 | exact Mi.lk2 | exact Mi.lk3 | exact Mi.lk4 | exact Mi.lk5 | exact Mi.lk6 | exact Mi.lk7 | exact Mi.lk8 | exact Mi.lk9 | exact Mi.lk10 | exact Mi.lk11 | exact Mi.lk12 | exact Mi.lk13 | exact Mi.lk14 | exact Mi.lk15 | exact Mi.lk16 | exact Mi.lk17 | exact Mi.lk18 | exact Mi.lk19 | exact Mi.lk20 | exact Mi.lk21 | exact Mi.lk22 | exact Mi.lk23 | exact Mi.lk24 | exact Mi.lk25 | exact Mi.lk26 | exact Mi.lk27 | exact Mi.lk28 | exact Mi.lk29 | exact Mi.lk30 | exact Mi.lk31 | exact Mi.lk32 | exact Mi.lk33 | exact Mi.lk34 | exact Mi.lk35 | exact Mi.lk36 | exact Mi.lk37 | exact Mi.lk38 | exact Mi.lk39)
local macro_rules | `(tactic| walk_at "st") => `(tactic| first | with_reducible refine Mi.st0 ?_ | with_reducible refine Mi.st1 ?_ | with_reducible refine Mi.st2 ?_ | with_reducible refine Mi.st3 ?_ | with_reducible refine Mi.st4 ?_ | with_reducible refine Mi.st5 ?_ | with_reducible refine Mi.st6 ?_ | with_reducible refine Mi.st7 ?_ | with_reducible refine Mi.st8 ?_ | with_reducible refine Mi.st9 ?_ | with_reducible refine Mi.st10 ?_ | with_reducible refine Mi.st11 ?_ | with_reducible refine Mi.st12 ?_ | with_reducible refine Mi.st13 ?_ | with_reducible refine Mi.st14 ?_ | with_reducible refine Mi.st15 ?_ | with_reducible refine Mi.st16 ?_ | with_reducible refine Mi.st17 ?_ | with_reducible refine Mi.st18 ?_ | with_reducible refine Mi.st19 ?_ | with_reducible refine Mi.st20 ?_ | with_reducible refine Mi.st21 ?_ | with_reducible refine Mi.st22 ?_ | with_reducible refine Mi.st23 ?_ | with_reducible refine Mi.st24 ?_ | with_reducible refine Mi.st25 ?_ | with_reducible refine Mi.st26 ?_ | with_reducible refine Mi.st27 ?_ | with_reducible refine Mi.st28 ?_ | with_reducible refine Mi.st29 ?_ | with_reducible refine Mi.st30 ?_ | with_reducible refine Mi.st31 ?_ | with_reducible refine Mi.st32 ?_ | with_reducible refine Mi.st33 ?_ | with_reducible refine Mi.st34 ?_ | with_reducible refine Mi.st35 ?_ | with_reducible refine Mi.st36 ?_ | with_reducible refine Mi.st37 ?_ | with_reducible refine Mi.st38 ?_ | with_reducible refine Mi.st39 ?_)
local macro_rules | `(tactic| walk_at "at") => `(tactic| first | with_reducible assumption | exact Rd.at0 | exact Rd.at1 | exact Rd.at2 | exact Rd.at3 | exact Rd.at4)
local macro_rules | `(tactic| walk_at "side") => `(tactic| first | with_reducible assumption | omega | (constructor <;> omega) | (refine Or.inl ⟨?_, ?_⟩ <;> omega) | (refine Or.inr ⟨?_, ?_⟩ <;> omega) | (simp only [List.length_cons, List.length_nil, List.length_append, List.length_map]; omega) | ((refine ⟨⟨?_, ?_⟩, ?_, ?_⟩) <;> omega))
local macro_rules | `(tactic| walk_at "fn") => `(tactic| fail)
local macro_rules | `(tactic| walk_at "w1") => `(tactic| first
  | ((with_reducible show Mi.SatS _ _ _ _ _ _); (first | with_reducible refine Mi.w_seq ?_ | with_reducible refine Mi.w_retIf ?_ | with_reducible refine Mi.w_retX ?_ | with_reducible refine Mi.w_asgX ?_ | with_reducible refine Mi.w_dropX ?_ | with_reducible refine Mi.w_raise ?_ | with_reducible refine Mi.w_asg ?_ | with_reducible refine Mi.w_ifS ?_ | with_reducible refine Mi.w_drop ?_ | with_reducible refine Mi.w_ret ?_ | with_reducible refine Mi.w_next ?_ | with_reducible refine Mi.w_for ?_ | with_reducible refine Mi.w_retN ?_ | with_reducible refine Mi.w_brk ?_ | with_reducible refine Mi.w_cnt ?_ | with_reducible refine Mi.w_while ?_ | with_reducible refine Mi.w_setO ?_))
  | ((with_reducible show Mi.Sat _ _); (first | ((with_reducible apply Mi.w_val); (walk_at "lk")) | with_reducible refine Mi.w_c ?_ | with_reducible refine Mi.w_op ?_ | with_reducible refine Mi.w_call ?_ | with_reducible refine Mi.w_callI ?_ | with_reducible refine Mi.w_tup ?_ | with_reducible refine Mi.w_getV ?_ | with_reducible refine Mi.w_ixV ?_ | ((with_reducible apply Mi.w_pkv); (walk_at "lk")) | with_reducible refine Mi.w_peek ?_ | with_reducible refine Mi.w_cb ?_ | with_reducible refine Mi.w_lst ?_ | with_reducible refine Mi.w_un ?_ | ((with_reducible apply Mi.w_ownA); (walk_at "lk"); (exact rfl)) | with_reducible refine Mi.w_andV ?_ | with_reducible refine Mi.w_orV ?_ | with_reducible refine Mi.w_notV ?_ | with_reducible refine Mi.w_if ?_ | with_reducible refine Mi.w_chain ?_ | with_reducible refine Mi.w_sl ?_ | with_reducible refine Mi.w_get ?_ | with_reducible refine Mi.w_d0 ?_ | with_reducible refine Mi.w_dict ?_ | with_reducible refine Mi.w_tupS ?_ | with_reducible refine Mi.w_app ?_ | with_reducible refine Mi.w_lcw ?_ | with_reducible refine Mi.w_js1 ?_ | with_reducible refine Mi.w_js0 ?_ | ((with_reducible apply Mi.w_lenO); (walk_at "lk")) | ((with_reducible apply Mi.w_lenv); (walk_at "lk"))))
  | ((with_reducible show Mi.SatT _ _); (first | with_reducible refine Mi.w_B ?_ | with_reducible refine Mi.w_andT ?_ | with_reducible refine Mi.w_orT ?_ | with_reducible refine Mi.w_notT ?_ | with_reducible refine Mi.w_yes ?_))
  | ((with_reducible show Mi.SatA _ _); (first | with_reducible refine Mi.w_nil ?_ | with_reducible refine Mi.w_cons ?_ | with_reducible refine Mi.w_snil ?_ | with_reducible refine Mi.w_sone ?_ | with_reducible refine Mi.w_sstar ?_ | with_reducible refine Mi.w_r1 ?_ | with_reducible refine Mi.w_r2 ?_ | with_reducible refine Mi.w_itL1 ?_ | with_reducible refine Mi.w_itT1 ?_))
  | ((with_reducible show Mi.VAL _ _); (first | with_reducible apply Mi.v_add | with_reducible apply Mi.v_sub | with_reducible apply Mi.v_eqI | with_reducible apply Mi.v_lt | with_reducible apply Mi.v_le | with_reducible apply Mi.v_gt | with_reducible apply Mi.v_ge | with_reducible apply Mi.v_neI | ((with_reducible apply Mi.v_ixL); (walk_at "at")) | ((with_reducible apply Mi.v_ixT); (walk_at "at")) | ((with_reducible apply Mi.v_mul); (walk_at "side")) | ((with_reducible apply Mi.v_div); (walk_at "side")) | ((with_reducible apply Mi.v_mod); (walk_at "side")) | with_reducible apply Mi.v_neg | with_reducible apply Mi.v_eqS | with_reducible apply Mi.v_eqB | with_reducible apply Mi.v_neS | with_reducible apply Mi.v_neB | with_reducible apply Mi.v_eqNI | with_reducible apply Mi.v_neNI | with_reducible apply Mi.v_isN | with_reducible apply Mi.v_notN | with_reducible apply Mi.v_lenL | with_reducible apply Mi.v_lenT | with_reducible apply Mi.v_abs | with_reducible apply Mi.v_int | with_reducible apply Mi.v_intB | with_reducible apply Mi.v_min2 | with_reducible apply Mi.v_max2 | with_reducible apply Mi.v_tupL | with_reducible apply Mi.v_tupT | with_reducible apply Mi.v_lstL | with_reducible apply Mi.v_lstT | with_reducible apply Mi.v_slT | with_reducible apply Mi.v_slL | ((with_reducible apply Mi.v_pow); (decide)) | ((with_reducible apply Mi.v_catL); (walk_at "side")) | ((with_reducible apply Mi.v_catT); (walk_at "side")) | ((with_reducible apply Mi.v_divmod); (walk_at "side")) | ((with_reducible apply Mi.v_fmt2); (walk_at "side")) | walk_at "fn"))
  | ((with_reducible show Mi.IFV _ _ _); (first | with_reducible refine Mi.if_t ?_ | with_reducible refine Mi.if_f ?_ | with_reducible refine Mi.if_nt ?_ | with_reducible refine Mi.if_nf ?_ | with_reducible refine Mi.if_n1 ?_ | with_reducible refine Mi.if_n2 ?_ | with_reducible refine Mi.if_n3 ?_ | with_reducible refine Mi.if_n4 ?_ | with_reducible refine Mi.if_n5 ?_ | with_reducible refine Mi.if_n6 ?_))
  | ((with_reducible show Mi.SETS _ _); (first | walk_at "st" | (with_reducible refine Mi.put_own (by walk_at "lk") ?_) | (with_reducible refine Mi.put_io (by walk_at "lk") ?_)))
  | ((with_reducible show Mi.TG _ _); (first | ((with_reducible apply Mi.tg_n); (exact rfl)) | ((with_reducible apply Mi.tg_t); (exact rfl))))
  | ((with_reducible show Mi.TGS _ _); (first | with_reducible refine Mi.tgs_cons ?_ | with_reducible refine Mi.tgs_nil ?_))
  | ((with_reducible show Mi.LCB _ _ _); (with_reducible apply Mi.lcb); (exact rfl))
  | ((with_reducible show Mi.WIPE _ _); (first | with_reducible refine Mi.wp1 ?_ | with_reducible refine Mi.wp2 ?_ | ((with_reducible refine Mi.rs1 ?_ ?_); (walk_at "lk")) | ((with_reducible refine Mi.rs1v (d := ?_) ?_ ?_); (walk_at "lk")) | ((with_reducible refine Mi.rs2 ?_ ?_ ?_); (walk_at "lk"); (walk_at "lk"))))
  | ((with_reducible show Mi.SETO _ _ _ _); (with_reducible apply Mi.seto); (exact rfl))
  | with_reducible refine Mi.isl ?_
  | ((with_reducible show Mi.APP _ _ _ _ _); (with_reducible apply Mi.app_); (walk_at "side"))
  | ((with_reducible show Mi.LEQ _ _); (with_reducible apply Mi.leq); (walk_at "side"))
  | with_reducible refine Mi.isls ?_
  | with_reducible refine Mi.ists ?_
  | ((with_reducible show Mi.R1 _ _); (with_reducible apply Mi.r1_); (walk_at "side"))
  | ((with_reducible show Mi.R2 _ _); (with_reducible apply Mi.r2_); (walk_at "side"))
  | with_reducible refine Mi.prt ?_
  | with_reducible refine Mi.w_part ?_
  | with_reducible refine Mi.bl_ ?_
  | ((with_reducible show Mi.MU _ _); (with_reducible apply Mi.mu_own); (walk_at "lk"))
  | ((with_reducible show Mi.MU _ _); (with_reducible apply Mi.mu_io); (walk_at "lk"))
  | with_reducible refine Mi.dl_cons ?_
  | with_reducible refine Mi.dl_nil ?_
  | with_reducible refine Mi.w_none ?_
  | with_reducible refine Mi.io_of ?_
  | with_reducible refine Mi.w_itT ?_
  | with_reducible refine Mi.w_itL ?_
  | walk_at "fn")
local macro_rules | `(tactic| walk_at "w") => `(tactic| repeat (walk_at "w1"))
local macro_rules | `(tactic| walk_at "wd") => `(tactic| first
  | ((with_reducible refine Mi.if_p ?_ ?_); (first | with_reducible assumption | exact rfl | decide | omega))
  | ((with_reducible refine Mi.if_m ?_ ?_); (first | with_reducible assumption | exact rfl | decide | omega))
  | ((with_reducible refine Mi.if_np ?_ ?_); (first | with_reducible assumption | exact rfl | decide | omega))
  | ((with_reducible refine Mi.if_nm ?_ ?_); (first | with_reducible assumption | exact rfl | decide | omega)))
local macro_rules | `(tactic| walk_at "mo") => `(tactic| (walk_at "w"; (repeat (walk_at "wd"; walk_at "w"))))
local macro_rules | `(tactic| walk_at "env") => `(tactic| simp only [envP, envI, List.map_cons, List.map_nil, List.length_cons, List.length_nil, List.replicate, List.cons_append, List.nil_append, Nat.reduceAdd, Nat.reduceSub])

local macro_rules | `(tactic| walk_at "fn") => `(tactic| first | ((with_reducible show Mi.VAL _ _); (with_reducible apply Mi.t_left)) | ((with_reducible show Mi.Sat _ _); (with_reducible refine Mi.w_isiE ?_)) | ((with_reducible show Mi.Sat _ _); (with_reducible refine Mi.w_pkR ?_)) | ((with_reducible show Mi.Sat _ _); (with_reducible refine Mi.w_ext ?_)) | ((with_reducible show Mi.EXT _ _ _ _ _); (with_reducible apply Mi.ext_); (walk_at "side")) | ((with_reducible show Mi.SatA _ _); (with_reducible refine Mi.w_r3 ?_)) | ((with_reducible show Mi.Sat _ _); (first | with_reducible refine Mi.w_lr3 ?_ | with_reducible refine Mi.w_pop ?_ | with_reducible refine Mi.w_sj ?_ | with_reducible refine Mi.w_popAt ?_ | with_reducible refine Mi.w_lstS ?_ | with_reducible refine Mi.w_scj ?_ | with_reducible refine Mi.w_lc2 ?_ | with_reducible refine Mi.w_fld ?_ | with_reducible refine Mi.w_meth ?_ | with_reducible refine Mi.w_kg ?_ | with_reducible refine Mi.w_k1 ?_ | with_reducible refine Mi.w_kgI ?_ | with_reducible refine Mi.w_neV ?_ | with_reducible refine Mi.w_dinV ?_ | ((with_reducible apply Mi.w_lstV); (walk_at "lk")) | ((with_reducible apply Mi.w_isiV); (walk_at "lk")) | with_reducible refine Mi.w_m1 ?_ | ((with_reducible refine Mi.w_lcO ?_ ?_); (decide)))) | ((with_reducible show Mi.TG _ _); (with_reducible refine Mi.tg_guard ?_ ?_); (first | exact Mi.mu_own' (by walk_at "lk") | exact Mi.mu_io' (by walk_at "lk"))) | (with_reducible refine Mi.iss ?_) | (with_reducible refine Mi.io_of1 ?_) | ((with_reducible show Mi.SatS _ _ _ _ _ _); (first | with_reducible refine Mi.w_setF ?_ | with_reducible refine Mi.w_new ?_)) | ((with_reducible show Mi.SatA _ _); (first | with_reducible refine Mi.w_enum ?_ | with_reducible refine Mi.w_itS1 ?_ | with_reducible refine Mi.w_enumS ?_ | with_reducible refine Mi.w_zipS ?_)) | ((with_reducible show Mi.ENS _ _); (with_reducible apply Mi.ens_); (walk_at "side")) | ((with_reducible show Mi.ZPS _ _); (with_reducible refine Mi.zps_ ?_)) | ((with_reducible show Mi.KG _ _ _ _); (with_reducible refine Mi.kg_ ?_)) | ((with_reducible show Mi.KGI _ _ _ _); (with_reducible refine Mi.kgi_ ?_)) | ((with_reducible show Mi.VAL _ _); (first | with_reducible apply Mi.v_kin | with_reducible apply Mi.v_count)) | ((with_reducible show Mi.DIK _ _ _ _); (with_reducible refine Mi.dik_ ?_)) | ((with_reducible show Mi.VAL _ _); (with_reducible apply Mi.v_gne)) | ((with_reducible show Mi.TG _ _); (with_reducible apply Mi.tg_l); (exact rfl)) | ((with_reducible show Mi.EN _ _); (with_reducible refine Mi.en_ ?_)) | (with_reducible refine Mi.isst ?_) | ((with_reducible show Mi.VAL _ _); (first | with_reducible apply Mi.v_leS | with_reducible apply Mi.v_inS | with_reducible apply Mi.v_ninS | with_reducible apply Mi.v_start | with_reducible apply Mi.v_ends | with_reducible apply Mi.v_strS | ((with_reducible apply Mi.v_lenS); (walk_at "side")) | ((with_reducible apply Mi.v_ixS); (walk_at "side"); (walk_at "at")) | ((with_reducible apply Mi.v_repL); (walk_at "side")))) | ((with_reducible show Mi.SJ _ _); (with_reducible apply Mi.sj_); (walk_at "side")))
open TL
theorem isP_no {cs : List Nat} (h : ¬ cs.length ≤ 40) : isP cs = false := by
  unfold isP
  rw [decide_eq_false h]; rfl
theorem cnv (P : Str) (c : Nat) : Txt.count P ⟨#[c]⟩ = cn c (tl P) := PyProof.Rows.count_cnt P c
set_option maxHeartbeats 8000000 in
theorem isp_go {P : Str} {Q : PyData → Prop} (hl : P.length ≤ 1000) (q : Q (.bool (isP (tl P)))) : SatP (runP 2 m_is_pattern [.str P]) Q := by
  have le : P.length = (tl P).length := len_tl P
  refine run_P ?_
  walk_at "env"
  unfold m_is_pattern
  walk_at "mo"
  by_cases a1 : (tl P).length ≤ 40
  · walk_at "mo"
    refine lc_mt [89, 77, 68] (fun c => .str ⟨#[c]⟩) (fun c => .int (cn c (tl P))) (by unfold Mi.signs; rw [sYMD]) (by decide) (fun c hc => ?_) ?_
    · walk_at "mo"
      refine ⟨by rw [cnv], ?_⟩
      walk_at "mo"
      rfl
    · walk_at "mo"
      refine v_neLi (xs := [cn 89 (tl P), cn 77 (tl P), cn 68 (tl P)]) (ys := [1, 1, 1]) ?_
      by_cases a2 : cn 89 (tl P) = 1 ∧ cn 77 (tl P) = 1 ∧ cn 68 (tl P) = 1
      · rw [decide_eq_true (show [cn 89 (tl P), cn 77 (tl P), cn 68 (tl P)] = [1, 1, 1] by rw [a2.1, a2.2.1, a2.2.2])]
        walk_at "mo"
        rw [show Txt.count P ("H" : Str) = cn 72 (tl P) from by rw [sH, cnv]]
        have q2 : Q (.bool (decide (cn 72 (tl P) ≤ 1 ∧ cn 78 (tl P) ≤ 1) && (tl P).all fun c => !(isC c && !isL c))) := by
          unfold isP at q
          rwa [decide_eq_true a1, decide_eq_true a2] at q
        by_cases a3 : cn 72 (tl P) ≤ 1
        · walk_at "mo"
          rw [show Txt.count P ("N" : Str) = cn 78 (tl P) from by rw [sN, cnv]]
          by_cases a4 : cn 78 (tl P) ≤ 1
          · rw [decide_eq_true (show cn 72 (tl P) ≤ 1 ∧ cn 78 (tl P) ≤ 1 from ⟨a3, a4⟩)] at q2
            walk_at "mo"
            rw [Bool.true_and] at q2
            refine lc_mt (tl P) (fun c => .str ⟨#[c]⟩) (fun c => .bool (!(isC c && !isL c))) rfl (by omega) (fun c hc => ?_) ?_
            · walk_at "mo"
              rw [if_neg Bool.false_ne_true, show (valI [(("Y" : Str), (4 : Int)), ("M", 2), ("D", 2), ("H", 2), ("N", 2)] ⟨#[c]⟩).isSome = isL c from kv_some c]
              cases z : isL c with
              | true =>
                walk_at "mo"
                refine ⟨by rw [Bool.not_true, Bool.and_false]; rfl, ?_⟩
                walk_at "mo"
                rfl
              | false =>
                walk_at "mo"
                refine cap_go ?_
                walk_at "mo"
                refine ⟨by rw [Bool.not_false, Bool.and_true], ?_⟩
                walk_at "mo"
                rfl
            · walk_at "mo"
              rw [show ((tl P).map fun c => PyData.bool (!(isC c && !isL c))) = ((tl P).map fun c => !(isC c && !isL c)).map .bool from by rw [List.map_map]; rfl]
              refine v_all ?_
              rw [List.all_map]
              exact q2
          · rw [decide_eq_false (show ¬ (cn 72 (tl P) ≤ 1 ∧ cn 78 (tl P) ≤ 1) from fun z => a4 z.2)] at q2
            walk_at "mo"
            exact q2
        · rw [decide_eq_false (show ¬ (cn 72 (tl P) ≤ 1 ∧ cn 78 (tl P) ≤ 1) from fun z => a3 z.1)] at q2
          walk_at "mo"
          exact q2
      · rw [decide_eq_false (show ¬ [cn 89 (tl P), cn 77 (tl P), cn 68 (tl P)] = [1, 1, 1] from fun z => a2 (by injection z with z1 z; injection z with z2 z; injection z with z3; exact ⟨z1, z2, z3⟩))]
        have e : isP (tl P) = false := by unfold isP; rw [decide_eq_false a2, Bool.false_and, Bool.and_false]
        rw [e] at q
        walk_at "mo"
        exact q
  · rw [isP_no a1] at q
    walk_at "mo"
    exact q
set_option maxHeartbeats 8000000 in
theorem lisp_go {P : Str} {Q : PyData → Prop} (hl : P.length ≤ 1000) (q : Q (.bool (isP (tl P)))) : SatP (runP 3 m__law_is_pattern [.str P]) Q := by
  have le : P.length = (tl P).length := len_tl P
  refine run_P ?_
  walk_at "env"
  unfold m__law_is_pattern
  walk_at "mo"
  by_cases a1 : (tl P).length ≤ 40
  · walk_at "mo"
    refine lc_mt (tl P) (fun c => .str ⟨#[c]⟩) (fun c => .bool (isC c && !isL c)) rfl (by omega) (fun c hc => ?_) ?_
    · walk_at "mo"
      refine ⟨by rw [show inS ⟨#[c]⟩ "0123456789ABCEFGIJKLOPQRSTUVWXZ" = (isC c && !isL c) from inCaps c], ?_⟩
      walk_at "mo"
      rfl
    · walk_at "mo"
      rw [show ((tl P).map fun c => PyData.bool (isC c && !isL c)) = ((tl P).map fun c => isC c && !isL c).map .bool from by rw [List.map_map]; rfl]
      refine v_any ?_
      rw [List.any_map]
      have na : ((tl P).all fun c => !(isC c && !isL c)) = !((tl P).any (id ∘ fun c => isC c && !isL c)) := by
        rw [List.all_eq_not_any_not]
        congr 2
        funext c
        simp
      cases b : (tl P).any (id ∘ fun c => isC c && !isL c) with
      | true =>
        have e : isP (tl P) = false := by unfold isP; rw [na, b, Bool.not_true, Bool.and_false, Bool.and_false, Bool.and_false]
        rw [e] at q
        walk_at "mo"
        exact q
      | false =>
        have q : Q (.bool (decide (cn 89 (tl P) = 1 ∧ cn 77 (tl P) = 1 ∧ cn 68 (tl P) = 1) && decide (cn 72 (tl P) ≤ 1 ∧ cn 78 (tl P) ≤ 1))) := by
          unfold isP at q
          rwa [decide_eq_true a1, na, b, Bool.not_false, Bool.and_true, Bool.true_and] at q
        walk_at "mo"
        refine lc_mt [89, 77, 68, 72, 78] (fun c => .str ⟨#[c]⟩) (fun c => .int (cn c (tl P))) (by unfold Mi.signs; rw [sYMDHN]) (by decide) (fun c hc => ?_) ?_
        · walk_at "mo"
          refine ⟨by rw [cnv], ?_⟩
          walk_at "mo"
          rfl
        · walk_at "mo"
          refine v_eqLi (xs := [cn 89 (tl P), cn 77 (tl P), cn 68 (tl P)]) (ys := [1, 1, 1]) ?_
          by_cases a2 : cn 89 (tl P) = 1 ∧ cn 77 (tl P) = 1 ∧ cn 68 (tl P) = 1
          · rw [decide_eq_true (show [cn 89 (tl P), cn 77 (tl P), cn 68 (tl P)] = [1, 1, 1] by rw [a2.1, a2.2.1, a2.2.2])]
            walk_at "mo"
            obtain ⟨m, hm⟩ := maxI_ex (ns := [cn 89 (tl P), cn 77 (tl P), cn 68 (tl P), cn 72 (tl P), cn 78 (tl P)]) (by simp)
            refine v_maxL (ns := [cn 89 (tl P), cn 77 (tl P), cn 68 (tl P), cn 72 (tl P), cn 78 (tl P)]) hm ?_
            walk_at "mo"
            obtain ⟨mm, mu⟩ := maxI_ok hm
            have e : decide (m ≤ 1) = (decide True && decide (cn 72 (tl P) ≤ 1 ∧ cn 78 (tl P) ≤ 1)) := by
              rw [show decide True = true from rfl, Bool.true_and, Bool.eq_iff_iff, decide_eq_true_eq, decide_eq_true_eq]
              constructor
              · intro z
                have u1 := mu (cn 72 (tl P)) (by simp)
                have u2 := mu (cn 78 (tl P)) (by simp)
                omega
              · intro z
                simp only [List.mem_cons, List.not_mem_nil, or_false] at mm
                omega
            rw [decide_eq_true a2] at q
            rw [e]
            exact q
          · rw [decide_eq_false (show ¬ [cn 89 (tl P), cn 77 (tl P), cn 68 (tl P)] = [1, 1, 1] from fun z => a2 (by injection z with z1 z; injection z with z2 z; injection z with z3; exact ⟨z1, z2, z3⟩))]
            rw [decide_eq_false a2] at q
            walk_at "mo"
            exact q
  · rw [isP_no a1] at q
    walk_at "mo"
    exact q

end K33

set_option Elab.async false
set_option linter.all false
set_option maxRecDepth 100000
namespace K33
open PySem hiding Env ret
open PySem.Spec PyProof.Rows L2 Mi
open TL
def vl (y m d mi : Nat) (c : Nat) : Nat := if c = 89 then y else if c = 77 then m else if c = 68 then d else if c = 72 then mi / 60 else mi % 60
structure VB (v : Nat → Nat) : Prop where
  y : v 89 < 10000
  o : ∀ c, c ≠ 89 → v c < 100
theorem VB.len {v : Nat → Nat} (h : VB v) {c : Nat} (hc : isL c = true) : (numL (v c)).length ≤ wd c := by
  by_cases e : c = 89
  · subst e
    exact numL_len (k := 4) (by decide) h.y
  · rw [wd_L hc e]
    exact numL_len (k := 2) (by decide) (h.o c e)
theorem vl_ok {y m d mi : Nat} (hy : y < 10000) (hm : m < 100) (hd : d < 100) (hi : mi < 1440) : VB (vl y m d mi) := by
  refine ⟨hy, fun c hc => ?_⟩
  unfold vl
  rw [if_neg hc]
  split
  · exact hm
  split
  · exact hd
  split
  · omega
  · omega
def pieceS (v : Nat → Nat) (c : Nat) : Str := ⟨(piece v c).toArray⟩
theorem tl_pieceS (v : Nat → Nat) (c : Nat) : tl (pieceS v c) = piece v c := rfl
theorem dig_head (n : Nat) : (numL n).head? ≠ some 43 ∧ (numL n).head? ≠ some 45 := by
  have h := numL_digits n
  cases z : numL n with
  | nil => exact absurd z (numL_ne n)
  | cons a r =>
    have := h a (by rw [z]; exact List.mem_cons_self ..)
    exact ⟨fun e => by injection e with e; omega, fun e => by injection e with e; omega⟩
theorem zfill_num (n w : Nat) : tl (Txt.zfill (Str.ofString (toString ((n : Nat) : Int))) w) = List.replicate (w - (numL n).length) 48 ++ numL n := by
  have t := tl_num n
  generalize Str.ofString (toString ((n : Nat) : Int)) = x at t ⊢
  have l : x.length = (numL n).length := by rw [len_tl, t]
  unfold Txt.zfill
  by_cases h : (w : Int) ≤ x.length
  · rw [if_pos h, t, show w - (numL n).length = 0 by omega]
    rfl
  · rw [if_neg h]
    have hh := dig_head n
    have e : x.cps[0]? = (numL n).head? := by
      rw [← t, List.head?_eq_getElem?]
      simp [tl]
    cases z : numL n with
    | nil => exact absurd z (numL_ne n)
    | cons a r =>
      rw [z] at hh
      have n1 : a ≠ 43 := fun q => hh.1 (by rw [q]; rfl)
      have n2 : a ≠ 45 := fun q => hh.2 (by rw [q]; rfl)
      have this : PySem.zfilled x ((w : Int).toNat - x.length) = Builtin.Str.padded x ((w : Int).toNat - x.length) 0 48 := by
        unfold PySem.zfilled
        rw [e, z]
        show (match some a with | some 43 | some 45 => _ | _ => _) = _
        split
        · rename_i q; injection q with q; exact absurd q n1
        · rename_i q; injection q with q; exact absurd q n2
        · rfl
      refine (congrArg tl this).trans ?_
      unfold Builtin.Str.padded
      show ((Array.replicate _ 48 ++ x.cps ++ Array.replicate 0 48).toList) = _
      rw [Array.toList_append, Array.toList_append, Array.toList_replicate, show x.cps.toList = numL n from t, z, l, z]
      simp
theorem wr_take {v : Nat → Nat} {cs : List Nat} {i c : Nat} (h : cs[i]? = some c) : Wr v (cs.take (i + 1)) = Wr v (cs.take i) ++ piece v c := by
  unfold Wr
  rw [List.take_succ, h, List.flatMap_append]
  simp
theorem fold_rep (c : Nat) : ∀ (n : Nat) (acc : Array Nat), (List.replicate n #[c]).foldl (· ++ ·) acc = acc ++ (List.replicate n c).toArray
  | 0, acc => by simp
  | n + 1, acc => by
    rw [List.replicate_succ, List.foldl_cons, fold_rep c n]
    rw [List.replicate_succ]
    apply Array.ext'
    simp
theorem mulS_one (c : Nat) (n : Nat) : mulS ⟨#[c]⟩ (n : Int) = ⟨(List.replicate n c).toArray⟩ := by
  unfold mulS
  by_cases h0 : (n : Int) < 1
  · have : n = 0 := by omega
    subst this
    rfl
  rw [if_neg h0]
  by_cases h1 : n = 1
  · subst h1
    rfl
  have : (((n : Int) == 1 || (⟨#[c]⟩ : Str).length == 0)) = false := by
    have a : ((n : Int) == 1) = false := by rw [beq_eq_false_iff_ne]; omega
    rw [a]; rfl
  rw [this, if_neg (by decide), fold_rep]
  simp
def WS (v : Nat → Nat) (cs : List Nat) : Str := ⟨(Wr v cs).toArray⟩
theorem join_ws (v : Nat → Nat) (cs : List Nat) : Txt.join ("" : Str) (cs.map (pieceS v)) = WS v cs := by
  refine ext_tl ?_
  rw [join_eq, tl_join, List.map_map]
  have e : tl ("" : Str) = [] := by decide +kernel
  rw [e]
  show joinL [] (cs.map (tl ∘ pieceS v)) = Wr v cs
  unfold Wr
  induction cs with
  | nil => rfl
  | cons c cs ih =>
    rw [List.map_cons, List.flatMap_cons, ← ih]
    cases cs with
    | nil => show _ = piece v c ++ []; rw [List.append_nil]; rfl
    | cons d cs => rfl
end K33

set_option Elab.async false
set_option linter.all false
set_option maxRecDepth 100000
namespace K33
open PySem hiding Env ret
open PySem.Spec PyProof.Rows L2 Mi
/-! the walk over mirrors -/
local macro_rules | `(tactic| walk_at "lk") => `(tactic| first | exact Mi.lk0 | exact Mi.lk1 | exact Mi.lk2 | exact Mi.lk3 | exact Mi.lk4 | exact Mi.lk5 | exact Mi.lk6 | exact Mi.lk7 | exact Mi.lk8 | exact Mi.lk9 | exact Mi.lk10 | exact Mi.lk11 | exact Mi.lk12 | exact Mi.lk13 | exact Mi.lk14 | exact Mi.lk15 | exact Mi.lk16 | exact Mi.lk17 | exact Mi.lk18 | exact Mi.lk19 | exact Mi.lk20 | exact Mi.lk21 | exact Mi.lk22 | exact Mi.lk23 | exact Mi.lk24 | exact Mi.lk25 | exact Mi.lk26 | exact Mi.lk27 | exact Mi.lk28 | exact Mi.lk29 | exact Mi.lk30 | exact Mi.lk31 | exact Mi.lk32 | exact Mi.lk33 | exact Mi.lk34 | exact Mi.lk35 | exact Mi.lk36 | exact Mi.lk37 | exact Mi.lk38 | exact Mi.lk39)
local macro_rules | `(tactic| walk_at "st") => `(tactic| first | with_reducible refine Mi.st0 ?_ | with_reducible refine Mi.st1 ?_ | with_reducible refine Mi.st2 ?_ | with_reducible refine Mi.st3 ?_ | with_reducible refine Mi.st4 ?_ | with_reducible refine Mi.st5 ?_ | with_reducible refine Mi.st6 ?_ | with_reducible refine Mi.st7 ?_ | with_reducible refine Mi.st8 ?_ | with_reducible refine Mi.st9 ?_ | with_reducible refine Mi.st10 ?_ | with_reducible refine Mi.st11 ?_ | with_reducible refine Mi.st12 ?_ | with_reducible refine Mi.st13 ?_ | with_reducible refine Mi.st14 ?_ | with_reducible refine Mi.st15 ?_ | with_reducible refine Mi.st16 ?_ | with_reducible refine Mi.st17 ?_ | with_reducible refine Mi.st18 ?_ | with_reducible refine Mi.st19 ?_ | with_reducible refine Mi.st20 ?_ | with_reducible refine Mi.st21 ?_ | with_reducible refine Mi.st22 ?_ | with_reducible refine Mi.st23 ?_ | with_reducible refine Mi.st24 ?_ | with_reducible refine Mi.st25 ?_ | with_reducible refine Mi.st26 ?_ | with_reducible refine Mi.st27 ?_ | with_reducible refine Mi.st28 ?_ | with_reducible refine Mi.st29 ?_ | with_reducible refine Mi.st30 ?_ | with_reducible refine Mi.st31 ?_ | with_reducible refine Mi.st32 ?_ | with_reducible refine Mi.st33 ?_ | with_reducible refine Mi.st34 ?_ | with_reducible refine Mi.st35 ?_ | with_reducible refine Mi.st36 ?_ | with_reducible refine Mi.st37 ?_ | with_reducible refine Mi.st38 ?_ | with_reducible refine Mi.st39 ?_)
local macro_rules | `(tactic| walk_at "at") => `(tactic| first | with_reducible assumption | exact Rd.at0 | exact Rd.at1 | exact Rd.at2 | exact Rd.at3 | exact Rd.at4)
local macro_rules | `(tactic| walk_at "side") => `(tactic| first | with_reducible assumption | omega | (constructor <;> omega) | (refine Or.inl ⟨?_, ?_⟩ <;> omega) | (refine Or.inr ⟨?_, ?_⟩ <;> omega) | (simp only [List.length_cons, List.length_nil, List.length_append, List.length_map]; omega) | ((refine ⟨⟨?_, ?_⟩, ?_, ?_⟩) <;> omega))
local macro_rules | `(tactic| walk_at "fn") => `(tactic| fail)
local macro_rules | `(tactic| walk_at "w1") => `(tactic| first
  | ((with_reducible show Mi.SatS _ _ _ _ _ _); (first | with_reducible refine Mi.w_seq ?_ | with_reducible refine Mi.w_retIf ?_ | with_reducible refine Mi.w_retX ?_ | with_reducible refine Mi.w_asgX ?_ | with_reducible refine Mi.w_dropX ?_ | with_reducible refine Mi.w_raise ?_ | with_reducible refine Mi.w_asg ?_ | with_reducible refine Mi.w_ifS ?_ | with_reducible refine Mi.w_drop ?_ | with_reducible refine Mi.w_ret ?_ | with_reducible refine Mi.w_next ?_ | with_reducible refine Mi.w_for ?_ | with_reducible refine Mi.w_retN ?_ | with_reducible refine Mi.w_brk ?_ | with_reducible refine Mi.w_cnt ?_ | with_reducible refine Mi.w_while ?_ | with_reducible refine Mi.w_setO ?_))
  | ((with_reducible show Mi.Sat _ _); (first | ((with_reducible apply Mi.w_val); (walk_at "lk")) | with_reducible refine Mi.w_c ?_ | with_reducible refine Mi.w_op ?_ | with_reducible refine Mi.w_call ?_ | with_reducible refine Mi.w_callI ?_ | with_reducible refine Mi.w_tup ?_ | with_reducible refine Mi.w_getV ?_ | with_reducible refine Mi.w_ixV ?_ | ((with_reducible apply Mi.w_pkv); (walk_at "lk")) | with_reducible refine Mi.w_peek ?_ | with_reducible refine Mi.w_cb ?_ | with_reducible refine Mi.w_lst ?_ | with_reducible refine Mi.w_un ?_ | ((with_reducible apply Mi.w_ownA); (walk_at "lk"); (exact rfl)) | with_reducible refine Mi.w_andV ?_ | with_reducible refine Mi.w_orV ?_ | with_reducible refine Mi.w_notV ?_ | with_reducible refine Mi.w_if ?_ | with_reducible refine Mi.w_chain ?_ | with_reducible refine Mi.w_sl ?_ | with_reducible refine Mi.w_get ?_ | with_reducible refine Mi.w_d0 ?_ | with_reducible refine Mi.w_dict ?_ | with_reducible refine Mi.w_tupS ?_ | with_reducible refine Mi.w_app ?_ | with_reducible refine Mi.w_lcw ?_ | with_reducible refine Mi.w_js1 ?_ | with_reducible refine Mi.w_js0 ?_ | ((with_reducible apply Mi.w_lenO); (walk_at "lk")) | ((with_reducible apply Mi.w_lenv); (walk_at "lk"))))
  | ((with_reducible show Mi.SatT _ _); (first | with_reducible refine Mi.w_B ?_ | with_reducible refine Mi.w_andT ?_ | with_reducible refine Mi.w_orT ?_ | with_reducible refine Mi.w_notT ?_ | with_reducible refine Mi.w_yes ?_))
  | ((with_reducible show Mi.SatA _ _); (first | with_reducible refine Mi.w_nil ?_ | with_reducible refine Mi.w_cons ?_ | with_reducible refine Mi.w_snil ?_ | with_reducible refine Mi.w_sone ?_ | with_reducible refine Mi.w_sstar ?_ | with_reducible refine Mi.w_r1 ?_ | with_reducible refine Mi.w_r2 ?_ | with_reducible refine Mi.w_itL1 ?_ | with_reducible refine Mi.w_itT1 ?_))
  | ((with_reducible show Mi.VAL _ _); (first | with_reducible apply Mi.v_add | with_reducible apply Mi.v_sub | with_reducible apply Mi.v_eqI | with_reducible apply Mi.v_lt | with_reducible apply Mi.v_le | with_reducible apply Mi.v_gt | with_reducible apply Mi.v_ge | with_reducible apply Mi.v_neI | ((with_reducible apply Mi.v_ixL); (walk_at "at")) | ((with_reducible apply Mi.v_ixT); (walk_at "at")) | ((with_reducible apply Mi.v_mul); (walk_at "side")) | ((with_reducible apply Mi.v_div); (walk_at "side")) | ((with_reducible apply Mi.v_mod); (walk_at "side")) | with_reducible apply Mi.v_neg | with_reducible apply Mi.v_eqS | with_reducible apply Mi.v_eqB | with_reducible apply Mi.v_neS | with_reducible apply Mi.v_neB | with_reducible apply Mi.v_eqNI | with_reducible apply Mi.v_neNI | with_reducible apply Mi.v_isN | with_reducible apply Mi.v_notN | with_reducible apply Mi.v_lenL | with_reducible apply Mi.v_lenT | with_reducible apply Mi.v_abs | with_reducible apply Mi.v_int | with_reducible apply Mi.v_intB | with_reducible apply Mi.v_min2 | with_reducible apply Mi.v_max2 | with_reducible apply Mi.v_tupL | with_reducible apply Mi.v_tupT | with_reducible apply Mi.v_lstL | with_reducible apply Mi.v_lstT | with_reducible apply Mi.v_slT | with_reducible apply Mi.v_slL | ((with_reducible apply Mi.v_pow); (decide)) | ((with_reducible apply Mi.v_catL); (walk_at "side")) | ((with_reducible apply Mi.v_catT); (walk_at "side")) | ((with_reducible apply Mi.v_divmod); (walk_at "side")) | ((with_reducible apply Mi.v_fmt2); (walk_at "side")) | walk_at "fn"))
  | ((with_reducible show Mi.IFV _ _ _); (first | with_reducible refine Mi.if_t ?_ | with_reducible refine Mi.if_f ?_ | with_reducible refine Mi.if_nt ?_ | with_reducible refine Mi.if_nf ?_ | with_reducible refine Mi.if_n1 ?_ | with_reducible refine Mi.if_n2 ?_ | with_reducible refine Mi.if_n3 ?_ | with_reducible refine Mi.if_n4 ?_ | with_reducible refine Mi.if_n5 ?_ | with_reducible refine Mi.if_n6 ?_))
  | ((with_reducible show Mi.SETS _ _); (first | walk_at "st" | (with_reducible refine Mi.put_own (by walk_at "lk") ?_) | (with_reducible refine Mi.put_io (by walk_at "lk") ?_)))
  | ((with_reducible show Mi.TG _ _); (first | ((with_reducible apply Mi.tg_n); (exact rfl)) | ((with_reducible apply Mi.tg_t); (exact rfl))))
  | ((with_reducible show Mi.TGS _ _); (first | with_reducible refine Mi.tgs_cons ?_ | with_reducible refine Mi.tgs_nil ?_))
  | ((with_reducible show Mi.LCB _ _ _); (with_reducible apply Mi.lcb); (exact rfl))
  | ((with_reducible show Mi.WIPE _ _); (first | with_reducible refine Mi.wp1 ?_ | with_reducible refine Mi.wp2 ?_ | ((with_reducible refine Mi.rs1 ?_ ?_); (walk_at "lk")) | ((with_reducible refine Mi.rs1v (d := ?_) ?_ ?_); (walk_at "lk")) | ((with_reducible refine Mi.rs2 ?_ ?_ ?_); (walk_at "lk"); (walk_at "lk"))))
  | ((with_reducible show Mi.SETO _ _ _ _); (with_reducible apply Mi.seto); (exact rfl))
  | with_reducible refine Mi.isl ?_
  | ((with_reducible show Mi.APP _ _ _ _ _); (with_reducible apply Mi.app_); (walk_at "side"))
  | ((with_reducible show Mi.LEQ _ _); (with_reducible apply Mi.leq); (walk_at "side"))
  | with_reducible refine Mi.isls ?_
  | with_reducible refine Mi.ists ?_
  | ((with_reducible show Mi.R1 _ _); (with_reducible apply Mi.r1_); (walk_at "side"))
  | ((with_reducible show Mi.R2 _ _); (with_reducible apply Mi.r2_); (walk_at "side"))
  | with_reducible refine Mi.prt ?_
  | with_reducible refine Mi.w_part ?_
  | with_reducible refine Mi.bl_ ?_
  | ((with_reducible show Mi.MU _ _); (with_reducible apply Mi.mu_own); (walk_at "lk"))
  | ((with_reducible show Mi.MU _ _); (with_reducible apply Mi.mu_io); (walk_at "lk"))
  | with_reducible refine Mi.dl_cons ?_
  | with_reducible refine Mi.dl_nil ?_
  | with_reducible refine Mi.w_none ?_
  | with_reducible refine Mi.io_of ?_
  | with_reducible refine Mi.w_itT ?_
  | with_reducible refine Mi.w_itL ?_
  | walk_at "fn")
local macro_rules | `(tactic| walk_at "w") => `(tactic| repeat (walk_at "w1"))
local macro_rules | `(tactic| walk_at "wd") => `(tactic| first
  | ((with_reducible refine Mi.if_p ?_ ?_); (first | with_reducible assumption | exact rfl | decide | omega))
  | ((with_reducible refine Mi.if_m ?_ ?_); (first | with_reducible assumption | exact rfl | decide | omega))
  | ((with_reducible refine Mi.if_np ?_ ?_); (first | with_reducible assumption | exact rfl | decide | omega))
  | ((with_reducible refine Mi.if_nm ?_ ?_); (first | with_reducible assumption | exact rfl | decide | omega)))
local macro_rules | `(tactic| walk_at "mo") => `(tactic| (walk_at "w"; (repeat (walk_at "wd"; walk_at "w"))))
local macro_rules | `(tactic| walk_at "env") => `(tactic| simp only [envP, envI, List.map_cons, List.map_nil, List.length_cons, List.length_nil, List.replicate, List.cons_append, List.nil_append, Nat.reduceAdd, Nat.reduceSub])

local macro_rules | `(tactic| walk_at "fn") => `(tactic| first | ((with_reducible show Mi.VAL _ _); (with_reducible apply Mi.t_left)) | ((with_reducible show Mi.Sat _ _); (with_reducible refine Mi.w_isiE ?_)) | ((with_reducible show Mi.Sat _ _); (with_reducible refine Mi.w_pkR ?_)) | ((with_reducible show Mi.Sat _ _); (with_reducible refine Mi.w_ext ?_)) | ((with_reducible show Mi.EXT _ _ _ _ _); (with_reducible apply Mi.ext_); (walk_at "side")) | ((with_reducible show Mi.SatA _ _); (with_reducible refine Mi.w_r3 ?_)) | ((with_reducible show Mi.Sat _ _); (first | with_reducible refine Mi.w_lr3 ?_ | with_reducible refine Mi.w_pop ?_ | with_reducible refine Mi.w_sj ?_ | with_reducible refine Mi.w_popAt ?_ | with_reducible refine Mi.w_lstS ?_ | with_reducible refine Mi.w_scj ?_ | with_reducible refine Mi.w_lc2 ?_ | with_reducible refine Mi.w_fld ?_ | with_reducible refine Mi.w_meth ?_ | with_reducible refine Mi.w_kg ?_ | with_reducible refine Mi.w_k1 ?_ | with_reducible refine Mi.w_kgI ?_ | with_reducible refine Mi.w_neV ?_ | with_reducible refine Mi.w_dinV ?_ | ((with_reducible apply Mi.w_lstV); (walk_at "lk")) | ((with_reducible apply Mi.w_isiV); (walk_at "lk")) | with_reducible refine Mi.w_m1 ?_ | ((with_reducible refine Mi.w_lcO ?_ ?_); (decide)))) | ((with_reducible show Mi.TG _ _); (with_reducible refine Mi.tg_guard ?_ ?_); (first | exact Mi.mu_own' (by walk_at "lk") | exact Mi.mu_io' (by walk_at "lk"))) | (with_reducible refine Mi.iss ?_) | (with_reducible refine Mi.io_of1 ?_) | ((with_reducible show Mi.SatS _ _ _ _ _ _); (first | with_reducible refine Mi.w_setF ?_ | with_reducible refine Mi.w_new ?_)) | ((with_reducible show Mi.SatA _ _); (first | with_reducible refine Mi.w_enum ?_ | with_reducible refine Mi.w_itS1 ?_ | with_reducible refine Mi.w_enumS ?_ | with_reducible refine Mi.w_zipS ?_)) | ((with_reducible show Mi.ENS _ _); (with_reducible apply Mi.ens_); (walk_at "side")) | ((with_reducible show Mi.ZPS _ _); (with_reducible refine Mi.zps_ ?_)) | ((with_reducible show Mi.KG _ _ _ _); (with_reducible refine Mi.kg_ ?_)) | ((with_reducible show Mi.KGI _ _ _ _); (with_reducible refine Mi.kgi_ ?_)) | ((with_reducible show Mi.VAL _ _); (first | with_reducible apply Mi.v_kin | with_reducible apply Mi.v_count)) | ((with_reducible show Mi.DIK _ _ _ _); (with_reducible refine Mi.dik_ ?_)) | ((with_reducible show Mi.VAL _ _); (with_reducible apply Mi.v_gne)) | ((with_reducible show Mi.TG _ _); (with_reducible apply Mi.tg_l); (exact rfl)) | ((with_reducible show Mi.EN _ _); (with_reducible refine Mi.en_ ?_)) | (with_reducible refine Mi.isst ?_) | ((with_reducible show Mi.VAL _ _); (first | with_reducible apply Mi.v_leS | with_reducible apply Mi.v_inS | with_reducible apply Mi.v_ninS | with_reducible apply Mi.v_start | with_reducible apply Mi.v_ends | with_reducible apply Mi.v_strS | ((with_reducible apply Mi.v_lenS); (walk_at "side")) | ((with_reducible apply Mi.v_ixS); (walk_at "side"); (walk_at "at")) | ((with_reducible apply Mi.v_repL); (walk_at "side")))) | ((with_reducible show Mi.SJ _ _); (with_reducible apply Mi.sj_); (walk_at "side")))
open TL
abbrev dtD (v : Nat → Nat) : PyData := .tuple [.int (v 89), .int (v 77), .int (v 68)]
abbrev nums (v : Nat → Nat) : List (PyData × PyData) := mergeD [] [(kD (Sum.inr ("Y" : Str)), .int (v 89)), (kD (Sum.inr ("M" : Str)), .int (v 77)), (kD (Sum.inr ("D" : Str)), .int (v 68)), (kD (Sum.inr ("H" : Str)), .int (v 72)), (kD (Sum.inr ("N" : Str)), .int (v 78))]
theorem kd_nil : KD [] (fun _ => none) 0 := ⟨Nat.le_refl _, fun p hp => absurd hp List.not_mem_nil, fun c => rfl⟩
theorem nums_kd (v : Nat → Nat) : KD (nums v) (upd (upd (upd (upd (upd (fun _ => none) 89 (v 89)) 77 (v 77)) 68 (v 68)) 72 (v 72)) 78 (v 78)) 5 := by
  have h := ((((kd_nil.put 89 (v 89)).put 77 (v 77)).put 68 (v 68)).put 72 (v 72)).put 78 (v 78)
  rw [← sY, ← sM, ← sD, ← sH, ← sN] at h
  exact h
theorem nums_at (v : Nat → Nat) (c : Nat) : valD (nums v) (.inr (ch c)) = if isL c = true then some (.int (v c)) else none := by
  rw [(nums_kd v).val]
  unfold upd
  by_cases h1 : c = 78
  · subst h1; rfl
  by_cases h2 : c = 72
  · subst h2; rfl
  by_cases h3 : c = 68
  · subst h3; rfl
  by_cases h4 : c = 77
  · subst h4; rfl
  by_cases h5 : c = 89
  · subst h5; rfl
  rw [if_neg h1, if_neg h2, if_neg h3, if_neg h4, if_neg h5, show isL c = false from decide_eq_false (by omega)]
  rfl
theorem nums_in (v : Nat → Nat) (c : Nat) : ((valD (nums v) (.inr (ch c))).isSome ^^ false) = isL c := by
  rw [nums_at]
  cases isL c <;> rfl
theorem eqY (c : Nat) : decide ((⟨#[c]⟩ : Str) = ("Y" : Str)) = decide (c = 89) := by
  rw [sY, Bool.eq_iff_iff, decide_eq_true_eq, decide_eq_true_eq]
  exact ch_inj
theorem apx (a b c : Str) : a ++ (b ++ c) = a ++ b ++ c := ext_tl (by rw [tl_append, tl_append, tl_append, tl_append, List.append_assoc])
theorem v_num {v : Nat → Nat} {c : Nat} {Q : PyData → Prop} (h : isL c = true) (q : Q (.int (v c))) : VAL (fGetD (.dict (nums v)) (.str ⟨#[c]⟩)) Q := ⟨_, by
  show valD (nums v) (.inr (ch c)) = _
  rw [nums_at, if_pos h], q⟩
theorem small_log {n : Nat} (h : n < 10000) : ((n : Int)).natAbs.log2 < 1920 := by
  rw [Int.natAbs_natCast]
  rcases Nat.eq_zero_or_pos n with z | z
  · subst z; decide
  · rw [Nat.log2_lt (by omega)]
    exact Nat.lt_of_lt_of_le h (Nat.le_trans (show 10000 ≤ 2 ^ 14 by decide) (Nat.pow_le_pow_right (by decide) (by decide)))
theorem VB.all {v : Nat → Nat} (h : VB v) (c : Nat) : v c < 10000 := by
  by_cases e : c = 89
  · subst e; exact h.y
  · have := h.o c e; omega
theorem pad_ok (c : Nat) : PadOk (wd c : Int) = true := by
  unfold wd
  split
  · decide
  split <;> decide
theorem pieceS_L {v : Nat → Nat} {c : Nat} (h : isL c = true) : Txt.zfill (toString ((v c : Nat) : Int) : Str) (wd c : Int) = pieceS v c := by
  refine ext_tl ?_
  rw [tl_pieceS]
  unfold piece
  rw [if_pos h]
  exact zfill_num (v c) (wd c)
theorem pieceS_n {v : Nat → Nat} {c : Nat} (h : isL c = false) : (⟨#[c]⟩ : Str) = pieceS v c := by
  unfold pieceS piece
  rw [h]
  rfl
theorem piece_sum {v : Nat → Nat} (hv : VB v) : ∀ cs : List Nat, ((cs.map (pieceS v)).map (·.length)).sum ≤ 4 * cs.length
  | [] => Nat.le_refl _
  | c :: cs => by
    have ih := piece_sum hv cs
    have pl : (pieceS v c).length = wd c := by rw [len_tl, tl_pieceS]; exact piece_len fun h => hv.len h
    have := wd_le c
    rw [List.map_cons, List.map_cons, List.sum_cons, List.length_cons]
    omega
set_option maxHeartbeats 8000000 in
theorem write_go {P : Str} {v : Nat → Nat} {mi : Int} {Q : PyData → Prop} (hl : P.length ≤ 40) (hv : VB v) (h1 : mi / 60 = v 72) (h2 : mi % 60 = v 78) (q : Q (.str (WS v (tl P)))) : SatP (runP 8 m_write [.str P, dtD v, .int mi]) Q := by
  have le : P.length = (tl P).length := len_tl P
  refine run_P ?_
  walk_at "env"
  unfold m_write
  walk_at "mo"
  rw [h1, h2]
  have h0 : ∃ x7, ([.val (.str P), .val (dtD v), .val (.int mi), .val (.int (v 72)), .val (.int (v 78)), .val (.dict (nums v)), .own (.list []), .no] : Mi.Env) = [.val (.str P), .val (dtD v), .val (.int mi), .val (.int (v 72)), .val (.int (v 78)), .val (.dict (nums v)), .own (.list ((((tl P).take 0).map (pieceS v)).map .str)), x7] ∧ notIo [x7] 0 = true := ⟨.no, rfl, rfl⟩
  with_reducible refine for_inv (fun i ρ => ∃ x7, ρ = [.val (.str P), .val (dtD v), .val (.int mi), .val (.int (v 72)), .val (.int (v 78)), .val (.dict (nums v)), .own (.list ((((tl P).take i).map (pieceS v)).map .str)), x7] ∧ notIo [x7] 0 = true) h0 (fun i x ρ hx hI => ?_) (fun ρ hI => ?_)
  · obtain ⟨x7, rfl, i7⟩ := hI
    have hx : ((tl P).map fun c => PyData.str ⟨#[c]⟩)[i]? = some x := hx
    rw [List.getElem?_map] at hx
    cases hc : (tl P)[i]? with
    | none => rw [hc] at hx; cases hx
    | some c =>
      rw [hc] at hx
      injection hx with hx
      have hx : PyData.str ⟨#[c]⟩ = x := hx
      subst hx
      have tk : (tl P).take (i + 1) = (tl P).take i ++ [c] := by rw [List.take_succ, hc]; rfl
      have il : i < (tl P).length := (List.getElem?_eq_some_iff.mp hc).1
      refine tg_n i7 ?_
      walk_at "mo"
      rw [if_neg Bool.false_ne_true, show (valI [(("Y" : Str), (4 : Int)), ("M", 2), ("D", 2), ("H", 2), ("N", 2)] ⟨#[c]⟩).isSome = isL c from kv_some c]
      cases z : isL c with
      | true =>
        walk_at "mo"
        refine v_num z ?_
        walk_at "mo"
        refine v_strI (small_log (hv.all c)) ?_
        walk_at "mo"
        refine v_kix (v := (wd c : Int)) (by rw [show valI [(("Y" : Str), (4 : Int)), ("M", 2), ("D", 2), ("H", 2), ("N", 2)] ⟨#[c]⟩ = _ from kv c, if_pos z]) ?_
        walk_at "mo"
        refine v_zfill (pad_ok c) ?_
        walk_at "mo"
        refine app_ (by rw [List.length_map, List.length_map, List.length_take]; omega) ?_
        walk_at "mo"
        exact ⟨_, by rw [tk, List.map_append, List.map_append, List.map_singleton, List.map_singleton, ← pieceS_L z], rfl⟩
      | false =>
        walk_at "mo"
        refine app_ (by rw [List.length_map, List.length_map, List.length_take]; omega) ?_
        walk_at "mo"
        exact ⟨_, by rw [tk, List.map_append, List.map_append, List.map_singleton, List.map_singleton, ← pieceS_n (v := v) z], rfl⟩
  · obtain ⟨x7, rfl, i7⟩ := hI
    walk_at "mo"
    rw [show (Mi.signs P).length = (tl P).length from List.length_map .., List.take_length]
    have ps := piece_sum hv (tl P)
    refine v_joinL (by rw [List.length_map, show ("" : Str).length = 0 by decide +kernel]; omega) ?_
    rw [join_ws]
    exact q
theorem pad_law {v : Nat → Nat} (hv : VB v) {c : Nat} (h : isL c = true) : mulS ("0" : Str) ((wd c : Int) - ((toString ((v c : Nat) : Int) : Str).length : Int)) ++ (toString ((v c : Nat) : Int) : Str) = pieceS v c := by
  have l : (toString ((v c : Nat) : Int) : Str).length = (numL (v c)).length := by rw [len_tl]; exact congrArg List.length (tl_num (v c))
  have g := hv.len h
  rw [l, show (wd c : Int) - ((numL (v c)).length : Int) = ((wd c - (numL (v c)).length : Nat) : Int) by omega, s48, mulS_one]
  refine ext_tl ?_
  rw [tl_append, tl_pieceS]
  unfold piece
  rw [if_pos h, show tl (toString ((v c : Nat) : Int) : Str) = numL (v c) from tl_num (v c)]
theorem ws_take {v : Nat → Nat} {cs : List Nat} {i c : Nat} (h : cs[i]? = some c) : WS v (cs.take i) ++ pieceS v c = WS v (cs.take (i + 1)) := by
  refine ext_tl ?_
  rw [tl_append]
  exact (wr_take h).symm
set_option maxHeartbeats 8000000 in
theorem lwrite_go {P : Str} {v : Nat → Nat} {mi : Int} {Q : PyData → Prop} (hl : P.length ≤ 40) (hv : VB v) (h1 : mi / 60 = v 72) (h2 : mi % 60 = v 78) (q : Q (.str (WS v (tl P)))) : SatP (runP 7 m__law_written [.str P, dtD v, .int mi]) Q := by
  have le : P.length = (tl P).length := len_tl P
  refine run_P ?_
  walk_at "env"
  unfold m__law_written
  walk_at "mo"
  rw [h1, h2]
  have h0 : ∃ x5 x6, ([.val (.str P), .val (dtD v), .val (.int mi), .val (.dict (nums v)), .val (.str ""), .no, .no] : Mi.Env) = [.val (.str P), .val (dtD v), .val (.int mi), .val (.dict (nums v)), .val (.str (WS v ((tl P).take 0))), x5, x6] ∧ notIo [x5] 0 = true ∧ notIo [x6] 0 = true := ⟨.no, .no, by rw [show WS v ((tl P).take 0) = "" from ext_tl (show [] = tl ("" : Str) from by decide +kernel)], rfl, rfl⟩
  with_reducible refine for_inv (fun i ρ => ∃ x5 x6, ρ = [.val (.str P), .val (dtD v), .val (.int mi), .val (.dict (nums v)), .val (.str (WS v ((tl P).take i))), x5, x6] ∧ notIo [x5] 0 = true ∧ notIo [x6] 0 = true) h0 (fun i x ρ hx hI => ?_) (fun ρ hI => ?_)
  · obtain ⟨x5, x6, rfl, i5, i6⟩ := hI
    have hx : ((tl P).map fun c => PyData.str ⟨#[c]⟩)[i]? = some x := hx
    rw [List.getElem?_map] at hx
    cases hc : (tl P)[i]? with
    | none => rw [hc] at hx; cases hx
    | some c =>
      rw [hc] at hx
      injection hx with hx
      have hx : PyData.str ⟨#[c]⟩ = x := hx
      subst hx
      have il : i < (tl P).length := (List.getElem?_eq_some_iff.mp hc).1
      have wl : (WS v ((tl P).take i)).length ≤ 160 := by
        have := (Wr_len (v := v) ((tl P).take i) fun c _ h => hv.len h).2
        rw [List.length_take] at this
        rw [len_tl]
        show (Wr v ((tl P).take i)).length ≤ 160
        omega
      have pl : (pieceS v c).length = wd c := by rw [len_tl, tl_pieceS]; exact piece_len fun h => hv.len h
      have w4 := wd_le c
      refine tg_n i5 ?_
      walk_at "mo"
      refine v_din (k := .inr ⟨#[c]⟩) rfl rfl ?_
      rw [show ((valD (nums v) (.inr ⟨#[c]⟩)).isSome ^^ false) = isL c from nums_in v c]
      cases z : isL c with
      | true =>
        walk_at "mo"
        refine v_num z ?_
        walk_at "mo"
        refine v_strI (small_log (hv.all c)) ?_
        refine tg_n i6 ?_
        have sl : (toString ((v c : Nat) : Int) : Str).length = (numL (v c)).length := by rw [len_tl]; exact congrArg List.length (tl_num (v c))
        have sg := hv.len z
        walk_at "mo"
        rw [eqY]
        by_cases e : c = 89
        · rw [decide_eq_true e]
          have we : (wd c : Int) = 4 := by rw [e]; rfl
          walk_at "mo"
          have pg := pad_law hv z
          rw [we] at pg
          refine v_mulS (by rw [show ("0" : Str).length = 1 by decide +kernel]; omega) ?_
          have pl2 := congrArg Str.length pg
          rw [pl] at pl2
          have al : ∀ a b : Str, (a ++ b).length = a.length + b.length := fun a b => by rw [len_tl, len_tl a, len_tl b, tl_append, List.length_append]
          have pl3 := (al _ _).symm.trans pl2
          walk_at "mo"
          refine v_addS (by omega) ?_
          walk_at "mo"
          refine v_addS (by rw [al]; omega) ?_
          walk_at "mo"
          refine ⟨.val (.str ⟨#[c]⟩), .val (.str (toString ((v c : Nat) : Int))), ?_, rfl, rfl⟩
          rw [← ws_take hc, ← pg, apx]
        · rw [decide_eq_false e]
          have we : (wd c : Int) = 2 := by rw [wd_L z e]; rfl
          walk_at "mo"
          have pg := pad_law hv z
          rw [we] at pg
          refine v_mulS (by rw [show ("0" : Str).length = 1 by decide +kernel]; omega) ?_
          have pl2 := congrArg Str.length pg
          rw [pl] at pl2
          have al : ∀ a b : Str, (a ++ b).length = a.length + b.length := fun a b => by rw [len_tl, len_tl a, len_tl b, tl_append, List.length_append]
          have pl3 := (al _ _).symm.trans pl2
          walk_at "mo"
          refine v_addS (by omega) ?_
          walk_at "mo"
          refine v_addS (by rw [al]; omega) ?_
          walk_at "mo"
          refine ⟨.val (.str ⟨#[c]⟩), .val (.str (toString ((v c : Nat) : Int))), ?_, rfl, rfl⟩
          rw [← ws_take hc, ← pg, apx]
      | false =>
        walk_at "mo"
        refine v_addS (by rw [show (⟨#[c]⟩ : Str).length = 1 from rfl]; omega) ?_
        walk_at "mo"
        exact ⟨_, _, by rw [← ws_take hc, ← pieceS_n (v := v) z], rfl, i6⟩
  · obtain ⟨x5, x6, rfl, i5, i6⟩ := hI
    walk_at "mo"
    rw [show (Mi.signs P).length = (tl P).length from List.length_map .., List.take_length]
    exact q

end K33

set_option Elab.async false
set_option linter.all false
set_option maxRecDepth 100000
namespace K33
open PySem hiding Env ret
open PySem.Spec PyProof.Rows L2 Mi
/-! the walk over mirrors -/
local macro_rules | `(tactic| walk_at "lk") => `(tactic| first | exact Mi.lk0 | exact Mi.lk1 | exact Mi.lk2 | exact Mi.lk3 | exact Mi.lk4 | exact Mi.lk5 | exact Mi.lk6 | exact Mi.lk7 | exact Mi.lk8 | exact Mi.lk9 | exact Mi.lk10 | exact Mi.lk11 | exact Mi.lk12 | exact Mi.lk13 | exact Mi.lk14 | exact Mi.lk15 | exact Mi.lk16 | exact Mi.lk17 | exact Mi.lk18 | exact Mi.lk19 | exact Mi.lk20 | exact Mi.lk21 | exact Mi.lk22 | exact Mi.lk23 | exact Mi.lk24 | exact Mi.lk25 | exact Mi.lk26 | exact Mi.lk27 | exact Mi.lk28 | exact Mi.lk29 | exact Mi.lk30 | exact Mi.lk31 | exact Mi.lk32 | exact Mi.lk33 | exact Mi.lk34 | exact Mi.lk35 | exact Mi.lk36 | exact Mi.lk37 | exact Mi.lk38 | exact Mi.lk39)
local macro_rules | `(tactic| walk_at "st") => `(tactic| first | with_reducible refine Mi.st0 ?_ | with_reducible refine Mi.st1 ?_ | with_reducible refine Mi.st2 ?_ | with_reducible refine Mi.st3 ?_ | with_reducible refine Mi.st4 ?_ | with_reducible refine Mi.st5 ?_ | with_reducible refine Mi.st6 ?_ | with_reducible refine Mi.st7 ?_ | with_reducible refine Mi.st8 ?_ | with_reducible refine Mi.st9 ?_ | with_reducible refine Mi.st10 ?_ | with_reducible refine Mi.st11 ?_ | with_reducible refine Mi.st12 ?_ | with_reducible refine Mi.st13 ?_ | with_reducible refine Mi.st14 ?_ | with_reducible refine Mi.st15 ?_ | with_reducible refine Mi.st16 ?_ | with_reducible refine Mi.st17 ?_ | with_reducible refine Mi.st18 ?_ | with_reducible refine Mi.st19 ?_ | with_reducible refine Mi.st20 ?_ | with_reducible refine Mi.st21 ?_ | with_reducible refine Mi.st22 ?_ | with_reducible refine Mi.st23 ?_ | with_reducible refine Mi.st24 ?_ | with_reducible refine Mi.st25 ?_ | with_reducible refine Mi.st26 ?_ | with_reducible refine Mi.st27 ?_ | with_reducible refine Mi.st28 ?_ | with_reducible refine Mi.st29 ?_ | with_reducible refine Mi.st30 ?_ | with_reducible refine Mi.st31 ?_ | with_reducible refine Mi.st32 ?_ | with_reducible refine Mi.st33 ?_ | with_reducible refine Mi.st34 ?_ | with_reducible refine Mi.st35 ?_ | with_reducible refine Mi.st36 ?_ | with_reducible refine Mi.st37 ?_ | with_reducible refine Mi.st38 ?_ | with_reducible refine Mi.st39 ?_)
local macro_rules | `(tactic| walk_at "at") => `(tactic| first | with_reducible assumption | exact Rd.at0 | exact Rd.at1 | exact Rd.at2 | exact Rd.at3 | exact Rd.at4)
local macro_rules | `(tactic| walk_at "side") => `(tactic| first | with_reducible assumption | omega | (constructor <;> omega) | (refine Or.inl ⟨?_, ?_⟩ <;> omega) | (refine Or.inr ⟨?_, ?_⟩ <;> omega) | (simp only [List.length_cons, List.length_nil, List.length_append, List.length_map]; omega) | ((refine ⟨⟨?_, ?_⟩, ?_, ?_⟩) <;> omega))
local macro_rules | `(tactic| walk_at "fn") => `(tactic| fail)
local macro_rules | `(tactic| walk_at "w1") => `(tactic| first
  | ((with_reducible show Mi.SatS _ _ _ _ _ _); (first | with_reducible refine Mi.w_seq ?_ | with_reducible refine Mi.w_retIf ?_ | with_reducible refine Mi.w_retX ?_ | with_reducible refine Mi.w_asgX ?_ | with_reducible refine Mi.w_dropX ?_ | with_reducible refine Mi.w_raise ?_ | with_reducible refine Mi.w_asg ?_ | with_reducible refine Mi.w_ifS ?_ | with_reducible refine Mi.w_drop ?_ | with_reducible refine Mi.w_ret ?_ | with_reducible refine Mi.w_next ?_ | with_reducible refine Mi.w_for ?_ | with_reducible refine Mi.w_retN ?_ | with_reducible refine Mi.w_brk ?_ | with_reducible refine Mi.w_cnt ?_ | with_reducible refine Mi.w_while ?_ | with_reducible refine Mi.w_setO ?_))
  | ((with_reducible show Mi.Sat _ _); (first | ((with_reducible apply Mi.w_val); (walk_at "lk")) | with_reducible refine Mi.w_c ?_ | with_reducible refine Mi.w_op ?_ | with_reducible refine Mi.w_call ?_ | with_reducible refine Mi.w_callI ?_ | with_reducible refine Mi.w_tup ?_ | with_reducible refine Mi.w_getV ?_ | with_reducible refine Mi.w_ixV ?_ | ((with_reducible apply Mi.w_pkv); (walk_at "lk")) | with_reducible refine Mi.w_peek ?_ | with_reducible refine Mi.w_cb ?_ | with_reducible refine Mi.w_lst ?_ | with_reducible refine Mi.w_un ?_ | ((with_reducible apply Mi.w_ownA); (walk_at "lk"); (exact rfl)) | with_reducible refine Mi.w_andV ?_ | with_reducible refine Mi.w_orV ?_ | with_reducible refine Mi.w_notV ?_ | with_reducible refine Mi.w_if ?_ | with_reducible refine Mi.w_chain ?_ | with_reducible refine Mi.w_sl ?_ | with_reducible refine Mi.w_get ?_ | with_reducible refine Mi.w_d0 ?_ | with_reducible refine Mi.w_dict ?_ | with_reducible refine Mi.w_tupS ?_ | with_reducible refine Mi.w_app ?_ | with_reducible refine Mi.w_lcw ?_ | with_reducible refine Mi.w_js1 ?_ | with_reducible refine Mi.w_js0 ?_ | ((with_reducible apply Mi.w_lenO); (walk_at "lk")) | ((with_reducible apply Mi.w_lenv); (walk_at "lk"))))
  | ((with_reducible show Mi.SatT _ _); (first | with_reducible refine Mi.w_B ?_ | with_reducible refine Mi.w_andT ?_ | with_reducible refine Mi.w_orT ?_ | with_reducible refine Mi.w_notT ?_ | with_reducible refine Mi.w_yes ?_))
  | ((with_reducible show Mi.SatA _ _); (first | with_reducible refine Mi.w_nil ?_ | with_reducible refine Mi.w_cons ?_ | with_reducible refine Mi.w_snil ?_ | with_reducible refine Mi.w_sone ?_ | with_reducible refine Mi.w_sstar ?_ | with_reducible refine Mi.w_r1 ?_ | with_reducible refine Mi.w_r2 ?_ | with_reducible refine Mi.w_itL1 ?_ | with_reducible refine Mi.w_itT1 ?_))
  | ((with_reducible show Mi.VAL _ _); (first | with_reducible apply Mi.v_add | with_reducible apply Mi.v_sub | with_reducible apply Mi.v_eqI | with_reducible apply Mi.v_lt | with_reducible apply Mi.v_le | with_reducible apply Mi.v_gt | with_reducible apply Mi.v_ge | with_reducible apply Mi.v_neI | ((with_reducible apply Mi.v_ixL); (walk_at "at")) | ((with_reducible apply Mi.v_ixT); (walk_at "at")) | ((with_reducible apply Mi.v_mul); (walk_at "side")) | ((with_reducible apply Mi.v_div); (walk_at "side")) | ((with_reducible apply Mi.v_mod); (walk_at "side")) | with_reducible apply Mi.v_neg | with_reducible apply Mi.v_eqS | with_reducible apply Mi.v_eqB | with_reducible apply Mi.v_neS | with_reducible apply Mi.v_neB | with_reducible apply Mi.v_eqNI | with_reducible apply Mi.v_neNI | with_reducible apply Mi.v_isN | with_reducible apply Mi.v_notN | with_reducible apply Mi.v_lenL | with_reducible apply Mi.v_lenT | with_reducible apply Mi.v_abs | with_reducible apply Mi.v_int | with_reducible apply Mi.v_intB | with_reducible apply Mi.v_min2 | with_reducible apply Mi.v_max2 | with_reducible apply Mi.v_tupL | with_reducible apply Mi.v_tupT | with_reducible apply Mi.v_lstL | with_reducible apply Mi.v_lstT | with_reducible apply Mi.v_slT | with_reducible apply Mi.v_slL | ((with_reducible apply Mi.v_pow); (decide)) | ((with_reducible apply Mi.v_catL); (walk_at "side")) | ((with_reducible apply Mi.v_catT); (walk_at "side")) | ((with_reducible apply Mi.v_divmod); (walk_at "side")) | ((with_reducible apply Mi.v_fmt2); (walk_at "side")) | walk_at "fn"))
  | ((with_reducible show Mi.IFV _ _ _); (first | with_reducible refine Mi.if_t ?_ | with_reducible refine Mi.if_f ?_ | with_reducible refine Mi.if_nt ?_ | with_reducible refine Mi.if_nf ?_ | with_reducible refine Mi.if_n1 ?_ | with_reducible refine Mi.if_n2 ?_ | with_reducible refine Mi.if_n3 ?_ | with_reducible refine Mi.if_n4 ?_ | with_reducible refine Mi.if_n5 ?_ | with_reducible refine Mi.if_n6 ?_))
  | ((with_reducible show Mi.SETS _ _); (first | walk_at "st" | (with_reducible refine Mi.put_own (by walk_at "lk") ?_) | (with_reducible refine Mi.put_io (by walk_at "lk") ?_)))
  | ((with_reducible show Mi.TG _ _); (first | ((with_reducible apply Mi.tg_n); (exact rfl)) | ((with_reducible apply Mi.tg_t); (exact rfl))))
  | ((with_reducible show Mi.TGS _ _); (first | with_reducible refine Mi.tgs_cons ?_ | with_reducible refine Mi.tgs_nil ?_))
  | ((with_reducible show Mi.LCB _ _ _); (with_reducible apply Mi.lcb); (exact rfl))
  | ((with_reducible show Mi.WIPE _ _); (first | with_reducible refine Mi.wp1 ?_ | with_reducible refine Mi.wp2 ?_ | ((with_reducible refine Mi.rs1 ?_ ?_); (walk_at "lk")) | ((with_reducible refine Mi.rs1v (d := ?_) ?_ ?_); (walk_at "lk")) | ((with_reducible refine Mi.rs2 ?_ ?_ ?_); (walk_at "lk"); (walk_at "lk"))))
  | ((with_reducible show Mi.SETO _ _ _ _); (with_reducible apply Mi.seto); (exact rfl))
  | with_reducible refine Mi.isl ?_
  | ((with_reducible show Mi.APP _ _ _ _ _); (with_reducible apply Mi.app_); (walk_at "side"))
  | ((with_reducible show Mi.LEQ _ _); (with_reducible apply Mi.leq); (walk_at "side"))
  | with_reducible refine Mi.isls ?_
  | with_reducible refine Mi.ists ?_
  | ((with_reducible show Mi.R1 _ _); (with_reducible apply Mi.r1_); (walk_at "side"))
  | ((with_reducible show Mi.R2 _ _); (with_reducible apply Mi.r2_); (walk_at "side"))
  | with_reducible refine Mi.prt ?_
  | with_reducible refine Mi.w_part ?_
  | with_reducible refine Mi.bl_ ?_
  | ((with_reducible show Mi.MU _ _); (with_reducible apply Mi.mu_own); (walk_at "lk"))
  | ((with_reducible show Mi.MU _ _); (with_reducible apply Mi.mu_io); (walk_at "lk"))
  | with_reducible refine Mi.dl_cons ?_
  | with_reducible refine Mi.dl_nil ?_
  | with_reducible refine Mi.w_none ?_
  | with_reducible refine Mi.io_of ?_
  | with_reducible refine Mi.w_itT ?_
  | with_reducible refine Mi.w_itL ?_
  | walk_at "fn")
local macro_rules | `(tactic| walk_at "w") => `(tactic| repeat (walk_at "w1"))
local macro_rules | `(tactic| walk_at "wd") => `(tactic| first
  | ((with_reducible refine Mi.if_p ?_ ?_); (first | with_reducible assumption | exact rfl | decide | omega))
  | ((with_reducible refine Mi.if_m ?_ ?_); (first | with_reducible assumption | exact rfl | decide | omega))
  | ((with_reducible refine Mi.if_np ?_ ?_); (first | with_reducible assumption | exact rfl | decide | omega))
  | ((with_reducible refine Mi.if_nm ?_ ?_); (first | with_reducible assumption | exact rfl | decide | omega)))
local macro_rules | `(tactic| walk_at "mo") => `(tactic| (walk_at "w"; (repeat (walk_at "wd"; walk_at "w"))))
local macro_rules | `(tactic| walk_at "env") => `(tactic| simp only [envP, envI, List.map_cons, List.map_nil, List.length_cons, List.length_nil, List.replicate, List.cons_append, List.nil_append, Nat.reduceAdd, Nat.reduceSub])

local macro_rules | `(tactic| walk_at "fn") => `(tactic| first | ((with_reducible show Mi.VAL _ _); (with_reducible apply Mi.t_left)) | ((with_reducible show Mi.Sat _ _); (with_reducible refine Mi.w_isiE ?_)) | ((with_reducible show Mi.Sat _ _); (with_reducible refine Mi.w_pkR ?_)) | ((with_reducible show Mi.Sat _ _); (with_reducible refine Mi.w_ext ?_)) | ((with_reducible show Mi.EXT _ _ _ _ _); (with_reducible apply Mi.ext_); (walk_at "side")) | ((with_reducible show Mi.SatA _ _); (with_reducible refine Mi.w_r3 ?_)) | ((with_reducible show Mi.Sat _ _); (first | with_reducible refine Mi.w_lr3 ?_ | with_reducible refine Mi.w_pop ?_ | with_reducible refine Mi.w_sj ?_ | with_reducible refine Mi.w_popAt ?_ | with_reducible refine Mi.w_lstS ?_ | with_reducible refine Mi.w_scj ?_ | with_reducible refine Mi.w_lc2 ?_ | with_reducible refine Mi.w_fld ?_ | with_reducible refine Mi.w_meth ?_ | with_reducible refine Mi.w_kg ?_ | with_reducible refine Mi.w_k1 ?_ | with_reducible refine Mi.w_kgI ?_ | with_reducible refine Mi.w_neV ?_ | with_reducible refine Mi.w_dinV ?_ | ((with_reducible apply Mi.w_lstV); (walk_at "lk")) | ((with_reducible apply Mi.w_isiV); (walk_at "lk")) | with_reducible refine Mi.w_m1 ?_ | ((with_reducible refine Mi.w_lcO ?_ ?_); (decide)))) | ((with_reducible show Mi.TG _ _); (with_reducible refine Mi.tg_guard ?_ ?_); (first | exact Mi.mu_own' (by walk_at "lk") | exact Mi.mu_io' (by walk_at "lk"))) | (with_reducible refine Mi.iss ?_) | (with_reducible refine Mi.io_of1 ?_) | ((with_reducible show Mi.SatS _ _ _ _ _ _); (first | with_reducible refine Mi.w_setF ?_ | with_reducible refine Mi.w_new ?_)) | ((with_reducible show Mi.SatA _ _); (first | with_reducible refine Mi.w_enum ?_ | with_reducible refine Mi.w_itS1 ?_ | with_reducible refine Mi.w_enumS ?_ | with_reducible refine Mi.w_zipS ?_)) | ((with_reducible show Mi.ENS _ _); (with_reducible apply Mi.ens_); (walk_at "side")) | ((with_reducible show Mi.ZPS _ _); (with_reducible refine Mi.zps_ ?_)) | ((with_reducible show Mi.KG _ _ _ _); (with_reducible refine Mi.kg_ ?_)) | ((with_reducible show Mi.KGI _ _ _ _); (with_reducible refine Mi.kgi_ ?_)) | ((with_reducible show Mi.VAL _ _); (first | with_reducible apply Mi.v_kin | with_reducible apply Mi.v_count)) | ((with_reducible show Mi.DIK _ _ _ _); (with_reducible refine Mi.dik_ ?_)) | ((with_reducible show Mi.VAL _ _); (with_reducible apply Mi.v_gne)) | ((with_reducible show Mi.TG _ _); (with_reducible apply Mi.tg_l); (exact rfl)) | ((with_reducible show Mi.EN _ _); (with_reducible refine Mi.en_ ?_)) | (with_reducible refine Mi.isst ?_) | ((with_reducible show Mi.VAL _ _); (first | with_reducible apply Mi.v_leS | with_reducible apply Mi.v_inS | with_reducible apply Mi.v_ninS | with_reducible apply Mi.v_start | with_reducible apply Mi.v_ends | with_reducible apply Mi.v_strS | ((with_reducible apply Mi.v_lenS); (walk_at "side")) | ((with_reducible apply Mi.v_ixS); (walk_at "side"); (walk_at "at")) | ((with_reducible apply Mi.v_repL); (walk_at "side")))) | ((with_reducible show Mi.SJ _ _); (with_reducible apply Mi.sj_); (walk_at "side")))
open TL
theorem tl_cut (x : Str) (a b : Nat) (h : a ≤ b) (hb : b ≤ (tl x).length) : tl (cutS x (some a) (some b)) = ((tl x).drop a).take (b - a) := by
  have l := len_tl x
  have e1 : HT.sIx x.length 0 (some (a : Int)) = a := (HT.sIx_nat x.length 0 a).trans (by omega)
  have e2 : HT.sIx x.length x.length (some (b : Int)) = b := (HT.sIx_nat x.length x.length b).trans (by omega)
  refine (List.toList_toArray ..).trans ?_
  rw [e1, e2]
def perr (k : Int) : PyData := .dict [(.str "at", .int k)]
noncomputable def RES (c : Cal) (T cs : List Nat) : Int ⊕ PyData := match RD T g0 0 cs with
  | .inl k => .inl k
  | .inr (a, g) => if a < T.length then .inl a else if FLAW c (G g 89) (G g 77) (G g 68) = "" ∧ G g 72 < 24 ∧ G g 78 < 60 then .inr (.tuple [.tuple [.int (G g 89), .int (G g 77), .int (G g 68)], .int (60 * G g 72 + G g 78)]) else .inl (-1)
noncomputable def OUT (c : Cal) (T cs : List Nat) : PyData := match RES c T cs with
  | .inl k => .int k
  | .inr d => d
theorem v_kd {kds : List (PyData × PyData)} {g : Nat → Option Int} {n : Nat} {w : Str} {c : Nat} {Q : PyData → Prop} (h : KD kds g n) (hw : w = ch c) (hc : (g c).isSome = true) (q : Q (.int (G g c))) : VAL (fGetD (.dict kds) (.str w)) Q := ⟨_, by
  show valD kds (.inr w) = some (.int (G g c))
  rw [hw, h.val]
  unfold G
  cases z : g c with
  | none => rw [z] at hc; cases hc
  | some i => rfl, q⟩
theorem wd_get (e : Nat) : ((valI [(("Y" : Str), (4 : Int)), ("M", 2), ("D", 2), ("H", 2), ("N", 2)] ⟨#[e]⟩).map PyData.int).getD (.int 1) = .int (wd e) := by
  rw [show valI [(("Y" : Str), (4 : Int)), ("M", 2), ("D", 2), ("H", 2), ("N", 2)] ⟨#[e]⟩ = _ from kv e]
  cases z : isL e with
  | true => rfl
  | false => rw [wd_no z]; rfl
theorem kd0 : KD (mergeD [] [(kD (Sum.inr ("H" : Str)), .int 0), (kD (Sum.inr ("N" : Str)), .int 0)]) g0 2 := by
  have h := (kd_nil.put 72 0).put 78 0
  rw [← sH, ← sN] at h
  exact h
theorem isP_mem {cs : List Nat} (h : isP cs = true) : 89 ∈ cs ∧ 77 ∈ cs ∧ 68 ∈ cs := by
  unfold isP at h
  simp only [Bool.and_eq_true, decide_eq_true_eq] at h
  exact ⟨cn_mem h.2.1.1, cn_mem h.2.1.2.1, cn_mem h.2.1.2.2⟩
theorem RES_bad {c : Cal} {T cs r : List Nat} {g : Nat → Option Int} {a e k : Nat} (hr : RD T g0 0 cs = RD T g a (e :: r)) (hf : fb T e a (wd e) = some k) : RES c T cs = .inl (k : Int) := by
  have : RD T g a (e :: r) = .inl k := by
    unfold RD
    rw [hf]
  unfold RES
  rw [hr, this]
set_option maxHeartbeats 8000000 in
theorem isd_go {c : Cal} {y m d : Int} {Q : PyData → Prop} (hc : COk c) (q : Q (.bool (decide (FLAW c y m d = "")))) : SatP (runP 2 m__is_date [calD c, .tuple [.int y, .int m, .int d]]) Q := by
  refine run_P ?_
  walk_at "env"
  unfold m__is_date
  walk_at "mo"
  refine w_tryO ?_
  walk_at "mo"
  refine dayX_go hc (fun h t _ _ => ?_) (fun h => ?_)
  · rw [decide_eq_true h] at q
    walk_at "mo"
    exact q
  · rw [decide_eq_false h] at q
    walk_at "mo"
    refine ⟨rfl, ?_⟩
    walk_at "mo"
    exact q
set_option maxHeartbeats 8000000 in
theorem read_go {c : Cal} {P T : Str} {Q : PyData → Prop} {X : Str → PyData → Prop} (hc : COk c) (hp : isP (tl P) = true) (hl : P.length ≤ 40) (ht : T.length ≤ 10000) (q : ∀ d, RES c (tl T) (tl P) = .inr d → Q d) (x : ∀ k, RES c (tl T) (tl P) = .inl k → X "PatternError" (perr k)) : SatX (runP 9 m_read [calD c, .str P, .str T]) Q X := by
  have le : P.length = (tl P).length := len_tl P
  have lt : T.length = (tl T).length := len_tl T
  refine run_X ?_
  walk_at "env"
  unfold m_read
  walk_at "mo"
  have h0 : ∃ kds a g x5 x6 x7, ([.val (calD c), .val (.str P), .val (.str T), .own (.dict (mergeD [] [(kD (Sum.inr ("H" : Str)), .int 0), (kD (Sum.inr ("N" : Str)), .int 0)])), .val (.int 0), .no, .no, .no, .no] : Mi.Env) = [.val (calD c), .val (.str P), .val (.str T), .own (.dict kds), .val (.int ((a : Nat) : Int)), x5, x6, x7, .no] ∧ notIo [x5] 0 = true ∧ notIo [x6] 0 = true ∧ notIo [x7] 0 = true ∧ KD kds g (2 + 0) ∧ RD (tl T) g0 0 (tl P) = RD (tl T) g a ((tl P).drop 0) ∧ a ≤ (tl T).length := ⟨_, 0, g0, .no, .no, .no, rfl, rfl, rfl, rfl, kd0, rfl, by omega⟩
  with_reducible refine for_inv (fun i ρ => ∃ kds a g x5 x6 x7, ρ = [.val (calD c), .val (.str P), .val (.str T), .own (.dict kds), .val (.int ((a : Nat) : Int)), x5, x6, x7, .no] ∧ notIo [x5] 0 = true ∧ notIo [x6] 0 = true ∧ notIo [x7] 0 = true ∧ KD kds g (2 + i) ∧ RD (tl T) g0 0 (tl P) = RD (tl T) g a ((tl P).drop i) ∧ a ≤ (tl T).length) h0 (fun i x ρ hx hI => ?_) (fun ρ hI => ?_)
  · obtain ⟨kds, a, g, x5, x6, x7, rfl, i5, i6, i7, hk, hr, ha⟩ := hI
    have hx : ((tl P).map fun c => PyData.str ⟨#[c]⟩)[i]? = some x := hx
    rw [List.getElem?_map] at hx
    cases hi : (tl P)[i]? with
    | none => rw [hi] at hx; cases hx
    | some e =>
      rw [hi] at hx
      injection hx with hx
      have hx : PyData.str ⟨#[e]⟩ = x := hx
      subst hx
      have il : i < (tl P).length := (List.getElem?_eq_some_iff.mp hi).1
      have dr : (tl P).drop i = e :: (tl P).drop (i + 1) := by rw [List.drop_eq_getElem_cons il, (List.getElem?_eq_some_iff.mp hi).2]
      have w4 := wd_le e
      refine tg_n i5 ?_
      walk_at "mo"
      rw [wd_get]
      walk_at "mo"
      refine tg_n i6 ?_
      walk_at "mo"
      rw [show ((a : Int) + (wd e : Int) - a).toNat = wd e by omega]
      have h1 : ∃ y7, ([.val (calD c), .val (.str P), .val (.str T), .own (.dict kds), .val (.int ((a : Nat) : Int)), .val (.str ⟨#[e]⟩), .val (.int ((a : Int) + (wd e : Int))), x7, .no] : Mi.Env) = [.val (calD c), .val (.str P), .val (.str T), .own (.dict kds), .val (.int ((a : Nat) : Int)), .val (.str ⟨#[e]⟩), .val (.int ((a : Int) + (wd e : Int))), y7, .no] ∧ notIo [y7] 0 = true ∧ fb (tl T) e a (wd e) = fb (tl T) e (a + 0) (wd e - 0) ∧ a + 0 ≤ (tl T).length := ⟨x7, rfl, i7, rfl, ha⟩
      with_reducible refine for_inv (fun j ρ => ∃ y7, ρ = [.val (calD c), .val (.str P), .val (.str T), .own (.dict kds), .val (.int ((a : Nat) : Int)), .val (.str ⟨#[e]⟩), .val (.int ((a : Int) + (wd e : Int))), y7, .no] ∧ notIo [y7] 0 = true ∧ fb (tl T) e a (wd e) = fb (tl T) e (a + j) (wd e - j) ∧ a + j ≤ (tl T).length) h1 (fun j x2 ρ hx hJ => ?_) (fun ρ hJ => ?_)
      · obtain ⟨y7, rfl, j7, hf, hj⟩ := hJ
        obtain ⟨hjw, rfl⟩ := rngD_get hx
        obtain ⟨m, hm⟩ : ∃ m, wd e - j = m + 1 := ⟨wd e - j - 1, by omega⟩
        have hm2 : wd e - (j + 1) = m := by omega
        rw [hm] at hf
        have bad : good (tl T) e (a + j) = false → RES c (tl T) (tl P) = .inl ((a : Int) + j) := fun z => by
          have : fb (tl T) e a (wd e) = some (a + j) := by
            rw [hf]
            unfold fb
            rw [z]
            rfl
          rw [dr] at hr
          exact RES_bad hr this
        refine tg_n j7 ?_
        walk_at "mo"
        by_cases l : a + j = (tl T).length
        · have gz : good (tl T) e (a + j) = false := by
            cases z : good (tl T) e (a + j) with
            | false => rfl
            | true => have := good_lt z; omega
          walk_at "mo"
          exact x _ (bad gz)
        · have jl : a + j < (tl T).length := by omega
          have ge : good (tl T) e (a + j) = fit e ((tl T)[a + j]) := by
            unfold good
            rw [List.getElem?_eq_getElem jl]
          walk_at "mo"
          refine v_ixS (c := (tl T)[a + j]) (by omega) (by have := atI_nat (List.getElem?_eq_getElem jl); rwa [Int.natCast_add] at this) ?_
          walk_at "mo"
          refine fits_go ?_
          cases z : fit e ((tl T)[a + j]) with
          | true =>
            walk_at "mo"
            refine ⟨_, rfl, rfl, ?_, by omega⟩
            rw [hf, hm2]
            show (if good (tl T) e (a + j) = true then _ else _) = _
            rw [if_pos (ge.trans z)]
            rfl
          | false =>
            walk_at "mo"
            exact x _ (bad (ge.trans z))
      · obtain ⟨y7, rfl, j7, hf, hj⟩ := hJ
        rw [rngD_len, Nat.sub_self] at hf
        rw [rngD_len] at hj
        have hf : fb (tl T) e a (wd e) = none := hf
        have hr2 : RD (tl T) g0 0 (tl P) = RD (tl T) (step (tl T) g a e) (a + wd e) ((tl P).drop (i + 1)) := by
          rw [hr, dr]
          conv => lhs; unfold RD
          rw [hf]
        unfold step at hr2
        walk_at "mo"
        rw [if_neg Bool.false_ne_true, show (valI [(("Y" : Str), (4 : Int)), ("M", 2), ("D", 2), ("H", 2), ("N", 2)] ⟨#[e]⟩).isSome = isL e from kv_some e]
        cases z : isL e with
        | true =>
          rw [z, if_pos rfl] at hr2
          have tc : tl (cutS T (some ((a : Nat) : Int)) (some ((a : Int) + (wd e : Int)))) = ((tl T).drop a).take (wd e) := by
            have := tl_cut T a (a + wd e) (by omega) hj
            rwa [Nat.add_sub_cancel_left] at this
          have it : PySem.intText? (cutS T (some ((a : Nat) : Int)) (some ((a : Int) + (wd e : Int)))) = some (numA (tl T) a (wd e)) := by
            have ad := dig_ok hf z
            rw [← tc] at ad
            have := PySem.intText_digits ad (by
              intro q
              have := congrArg List.length (tc.symm.trans q)
              rw [List.length_take, List.length_drop, List.length_nil] at this
              omega) (by rw [len_tl, tc, List.length_take]; omega)
            rw [this]
            unfold numA
            rw [← tc]
          walk_at "mo"
          refine w_putO ?_
          walk_at "mo"
          refine v_slS (by omega) ?_
          walk_at "mo"
          refine v_intS (by rw [len_tl, tc, List.length_take]; omega) it ?_
          walk_at "mo"
          refine ⟨_, _, rfl, rfl, by have := hk.len; omega, ?_⟩
          walk_at "mo"
          exact ⟨_, a + wd e, _, _, _, _, rfl, rfl, rfl, j7, by have := hk.put e (numA (tl T) a (wd e)); rwa [Nat.add_assoc] at this, hr2, hj⟩
        | false =>
          rw [z, if_neg Bool.false_ne_true] at hr2
          walk_at "mo"
          exact ⟨kds, a + wd e, g, _, _, _, rfl, rfl, rfl, j7, ⟨by have := hk.len; omega, hk.key, hk.val⟩, hr2, hj⟩
  · obtain ⟨kds, a, g, x5, x6, x7, rfl, i5, i6, i7, hk, hr, ha⟩ := hI
    rw [show (Mi.signs P).length = (tl P).length from List.length_map .., List.drop_length] at hr
    have hr : RD (tl T) g0 0 (tl P) = .inr (a, g) := hr
    walk_at "mo"
    have has : ∀ c, ((g0 c).isSome = true ∨ (c ∈ tl P ∧ isL c = true)) → (g c).isSome = true := fun c h => RD_has _ _ _ _ _ hr h
    by_cases h1 : a < (tl T).length
    · have r : RES c (tl T) (tl P) = .inl a := by unfold RES; rw [hr]; show (if a < (tl T).length then _ else _) = _; rw [if_pos h1]
      walk_at "mo"
      exact x _ r
    · have r : RES c (tl T) (tl P) = if FLAW c (G g 89) (G g 77) (G g 68) = "" ∧ G g 72 < 24 ∧ G g 78 < 60 then .inr (.tuple [.tuple [.int (G g 89), .int (G g 77), .int (G g 68)], .int (60 * G g 72 + G g 78)]) else .inl (-1) := by unfold RES; rw [hr]; show (if a < (tl T).length then _ else _) = _; rw [if_neg h1]
      walk_at "mo"
      obtain ⟨m1, m2, m3⟩ := isP_mem hp
      have s1 := has 89 (.inr ⟨m1, rfl⟩)
      have s2 := has 77 (.inr ⟨m2, rfl⟩)
      have s3 := has 68 (.inr ⟨m3, rfl⟩)
      have s4 := has 72 (.inl rfl)
      have s5 := has 78 (.inl rfl)
      refine v_kd hk sY s1 ?_
      walk_at "mo"
      refine v_kd hk sM s2 ?_
      walk_at "mo"
      refine v_kd hk sD s3 ?_
      walk_at "mo"
      refine v_kd hk sH s4 ?_
      by_cases b1 : G g 72 < 24
      · walk_at "mo"
        refine v_kd hk sN s5 ?_
        by_cases b2 : G g 78 < 60
        · walk_at "mo"
          refine isd_go hc ?_
          by_cases b3 : FLAW c (G g 89) (G g 77) (G g 68) = ""
          · rw [if_pos ⟨b3, b1, b2⟩] at r
            rw [decide_eq_true b3]
            walk_at "mo"
            refine v_kd hk sH s4 ?_
            walk_at "mo"
            refine v_kd hk sN s5 ?_
            walk_at "mo"
            exact q _ r
          · rw [if_neg fun z => b3 z.1] at r
            rw [decide_eq_false b3]
            walk_at "mo"
            exact x _ r
        · rw [if_neg fun z => b2 z.2.2] at r
          walk_at "mo"
          exact x _ r
      · rw [if_neg fun z => b1 z.2.1] at r
        walk_at "mo"
        exact x _ r

end K33

set_option Elab.async false
set_option linter.all false
set_option maxRecDepth 100000
namespace K33
open PySem hiding Env ret
open PySem.Spec PyProof.Rows L2 Mi
/-! the walk over mirrors -/
local macro_rules | `(tactic| walk_at "lk") => `(tactic| first | exact Mi.lk0 | exact Mi.lk1 | exact Mi.lk2 | exact Mi.lk3 | exact Mi.lk4 | exact Mi.lk5 | exact Mi.lk6 | exact Mi.lk7 | exact Mi.lk8 | exact Mi.lk9 | exact Mi.lk10 | exact Mi.lk11 | exact Mi.lk12 | exact Mi.lk13 | exact Mi.lk14 | exact Mi.lk15 | exact Mi.lk16 | exact Mi.lk17 | exact Mi.lk18 | exact Mi.lk19 | exact Mi.lk20 | exact Mi.lk21 | exact Mi.lk22 | exact Mi.lk23 | exact Mi.lk24 | exact Mi.lk25 | exact Mi.lk26 | exact Mi.lk27 | exact Mi.lk28 | exact Mi.lk29 | exact Mi.lk30 | exact Mi.lk31 | exact Mi.lk32 | exact Mi.lk33 | exact Mi.lk34 | exact Mi.lk35 | exact Mi.lk36 | exact Mi.lk37 | exact Mi.lk38 | exact Mi.lk39)
local macro_rules | `(tactic| walk_at "st") => `(tactic| first | with_reducible refine Mi.st0 ?_ | with_reducible refine Mi.st1 ?_ | with_reducible refine Mi.st2 ?_ | with_reducible refine Mi.st3 ?_ | with_reducible refine Mi.st4 ?_ | with_reducible refine Mi.st5 ?_ | with_reducible refine Mi.st6 ?_ | with_reducible refine Mi.st7 ?_ | with_reducible refine Mi.st8 ?_ | with_reducible refine Mi.st9 ?_ | with_reducible refine Mi.st10 ?_ | with_reducible refine Mi.st11 ?_ | with_reducible refine Mi.st12 ?_ | with_reducible refine Mi.st13 ?_ | with_reducible refine Mi.st14 ?_ | with_reducible refine Mi.st15 ?_ | with_reducible refine Mi.st16 ?_ | with_reducible refine Mi.st17 ?_ | with_reducible refine Mi.st18 ?_ | with_reducible refine Mi.st19 ?_ | with_reducible refine Mi.st20 ?_ | with_reducible refine Mi.st21 ?_ | with_reducible refine Mi.st22 ?_ | with_reducible refine Mi.st23 ?_ | with_reducible refine Mi.st24 ?_ | with_reducible refine Mi.st25 ?_ | with_reducible refine Mi.st26 ?_ | with_reducible refine Mi.st27 ?_ | with_reducible refine Mi.st28 ?_ | with_reducible refine Mi.st29 ?_ | with_reducible refine Mi.st30 ?_ | with_reducible refine Mi.st31 ?_ | with_reducible refine Mi.st32 ?_ | with_reducible refine Mi.st33 ?_ | with_reducible refine Mi.st34 ?_ | with_reducible refine Mi.st35 ?_ | with_reducible refine Mi.st36 ?_ | with_reducible refine Mi.st37 ?_ | with_reducible refine Mi.st38 ?_ | with_reducible refine Mi.st39 ?_)
local macro_rules | `(tactic| walk_at "at") => `(tactic| first | with_reducible assumption | exact Rd.at0 | exact Rd.at1 | exact Rd.at2 | exact Rd.at3 | exact Rd.at4)
local macro_rules | `(tactic| walk_at "side") => `(tactic| first | with_reducible assumption | omega | (constructor <;> omega) | (refine Or.inl ⟨?_, ?_⟩ <;> omega) | (refine Or.inr ⟨?_, ?_⟩ <;> omega) | (simp only [List.length_cons, List.length_nil, List.length_append, List.length_map]; omega) | ((refine ⟨⟨?_, ?_⟩, ?_, ?_⟩) <;> omega))
local macro_rules | `(tactic| walk_at "fn") => `(tactic| fail)
local macro_rules | `(tactic| walk_at "w1") => `(tactic| first
  | ((with_reducible show Mi.SatS _ _ _ _ _ _); (first | with_reducible refine Mi.w_seq ?_ | with_reducible refine Mi.w_retIf ?_ | with_reducible refine Mi.w_retX ?_ | with_reducible refine Mi.w_asgX ?_ | with_reducible refine Mi.w_dropX ?_ | with_reducible refine Mi.w_raise ?_ | with_reducible refine Mi.w_asg ?_ | with_reducible refine Mi.w_ifS ?_ | with_reducible refine Mi.w_drop ?_ | with_reducible refine Mi.w_ret ?_ | with_reducible refine Mi.w_next ?_ | with_reducible refine Mi.w_for ?_ | with_reducible refine Mi.w_retN ?_ | with_reducible refine Mi.w_brk ?_ | with_reducible refine Mi.w_cnt ?_ | with_reducible refine Mi.w_while ?_ | with_reducible refine Mi.w_setO ?_))
  | ((with_reducible show Mi.Sat _ _); (first | ((with_reducible apply Mi.w_val); (walk_at "lk")) | with_reducible refine Mi.w_c ?_ | with_reducible refine Mi.w_op ?_ | with_reducible refine Mi.w_call ?_ | with_reducible refine Mi.w_callI ?_ | with_reducible refine Mi.w_tup ?_ | with_reducible refine Mi.w_getV ?_ | with_reducible refine Mi.w_ixV ?_ | ((with_reducible apply Mi.w_pkv); (walk_at "lk")) | with_reducible refine Mi.w_peek ?_ | with_reducible refine Mi.w_cb ?_ | with_reducible refine Mi.w_lst ?_ | with_reducible refine Mi.w_un ?_ | ((with_reducible apply Mi.w_ownA); (walk_at "lk"); (exact rfl)) | with_reducible refine Mi.w_andV ?_ | with_reducible refine Mi.w_orV ?_ | with_reducible refine Mi.w_notV ?_ | with_reducible refine Mi.w_if ?_ | with_reducible refine Mi.w_chain ?_ | with_reducible refine Mi.w_sl ?_ | with_reducible refine Mi.w_get ?_ | with_reducible refine Mi.w_d0 ?_ | with_reducible refine Mi.w_dict ?_ | with_reducible refine Mi.w_tupS ?_ | with_reducible refine Mi.w_app ?_ | with_reducible refine Mi.w_lcw ?_ | with_reducible refine Mi.w_js1 ?_ | with_reducible refine Mi.w_js0 ?_ | ((with_reducible apply Mi.w_lenO); (walk_at "lk")) | ((with_reducible apply Mi.w_lenv); (walk_at "lk"))))
  | ((with_reducible show Mi.SatT _ _); (first | with_reducible refine Mi.w_B ?_ | with_reducible refine Mi.w_andT ?_ | with_reducible refine Mi.w_orT ?_ | with_reducible refine Mi.w_notT ?_ | with_reducible refine Mi.w_yes ?_))
  | ((with_reducible show Mi.SatA _ _); (first | with_reducible refine Mi.w_nil ?_ | with_reducible refine Mi.w_cons ?_ | with_reducible refine Mi.w_snil ?_ | with_reducible refine Mi.w_sone ?_ | with_reducible refine Mi.w_sstar ?_ | with_reducible refine Mi.w_r1 ?_ | with_reducible refine Mi.w_r2 ?_ | with_reducible refine Mi.w_itL1 ?_ | with_reducible refine Mi.w_itT1 ?_))
  | ((with_reducible show Mi.VAL _ _); (first | with_reducible apply Mi.v_add | with_reducible apply Mi.v_sub | with_reducible apply Mi.v_eqI | with_reducible apply Mi.v_lt | with_reducible apply Mi.v_le | with_reducible apply Mi.v_gt | with_reducible apply Mi.v_ge | with_reducible apply Mi.v_neI | ((with_reducible apply Mi.v_ixL); (walk_at "at")) | ((with_reducible apply Mi.v_ixT); (walk_at "at")) | ((with_reducible apply Mi.v_mul); (walk_at "side")) | ((with_reducible apply Mi.v_div); (walk_at "side")) | ((with_reducible apply Mi.v_mod); (walk_at "side")) | with_reducible apply Mi.v_neg | with_reducible apply Mi.v_eqS | with_reducible apply Mi.v_eqB | with_reducible apply Mi.v_neS | with_reducible apply Mi.v_neB | with_reducible apply Mi.v_eqNI | with_reducible apply Mi.v_neNI | with_reducible apply Mi.v_isN | with_reducible apply Mi.v_notN | with_reducible apply Mi.v_lenL | with_reducible apply Mi.v_lenT | with_reducible apply Mi.v_abs | with_reducible apply Mi.v_int | with_reducible apply Mi.v_intB | with_reducible apply Mi.v_min2 | with_reducible apply Mi.v_max2 | with_reducible apply Mi.v_tupL | with_reducible apply Mi.v_tupT | with_reducible apply Mi.v_lstL | with_reducible apply Mi.v_lstT | with_reducible apply Mi.v_slT | with_reducible apply Mi.v_slL | ((with_reducible apply Mi.v_pow); (decide)) | ((with_reducible apply Mi.v_catL); (walk_at "side")) | ((with_reducible apply Mi.v_catT); (walk_at "side")) | ((with_reducible apply Mi.v_divmod); (walk_at "side")) | ((with_reducible apply Mi.v_fmt2); (walk_at "side")) | walk_at "fn"))
  | ((with_reducible show Mi.IFV _ _ _); (first | with_reducible refine Mi.if_t ?_ | with_reducible refine Mi.if_f ?_ | with_reducible refine Mi.if_nt ?_ | with_reducible refine Mi.if_nf ?_ | with_reducible refine Mi.if_n1 ?_ | with_reducible refine Mi.if_n2 ?_ | with_reducible refine Mi.if_n3 ?_ | with_reducible refine Mi.if_n4 ?_ | with_reducible refine Mi.if_n5 ?_ | with_reducible refine Mi.if_n6 ?_))
  | ((with_reducible show Mi.SETS _ _); (first | walk_at "st" | (with_reducible refine Mi.put_own (by walk_at "lk") ?_) | (with_reducible refine Mi.put_io (by walk_at "lk") ?_)))
  | ((with_reducible show Mi.TG _ _); (first | ((with_reducible apply Mi.tg_n); (exact rfl)) | ((with_reducible apply Mi.tg_t); (exact rfl))))
  | ((with_reducible show Mi.TGS _ _); (first | with_reducible refine Mi.tgs_cons ?_ | with_reducible refine Mi.tgs_nil ?_))
  | ((with_reducible show Mi.LCB _ _ _); (with_reducible apply Mi.lcb); (exact rfl))
  | ((with_reducible show Mi.WIPE _ _); (first | with_reducible refine Mi.wp1 ?_ | with_reducible refine Mi.wp2 ?_ | ((with_reducible refine Mi.rs1 ?_ ?_); (walk_at "lk")) | ((with_reducible refine Mi.rs1v (d := ?_) ?_ ?_); (walk_at "lk")) | ((with_reducible refine Mi.rs2 ?_ ?_ ?_); (walk_at "lk"); (walk_at "lk"))))
  | ((with_reducible show Mi.SETO _ _ _ _); (with_reducible apply Mi.seto); (exact rfl))
  | with_reducible refine Mi.isl ?_
  | ((with_reducible show Mi.APP _ _ _ _ _); (with_reducible apply Mi.app_); (walk_at "side"))
  | ((with_reducible show Mi.LEQ _ _); (with_reducible apply Mi.leq); (walk_at "side"))
  | with_reducible refine Mi.isls ?_
  | with_reducible refine Mi.ists ?_
  | ((with_reducible show Mi.R1 _ _); (with_reducible apply Mi.r1_); (walk_at "side"))
  | ((with_reducible show Mi.R2 _ _); (with_reducible apply Mi.r2_); (walk_at "side"))
  | with_reducible refine Mi.prt ?_
  | with_reducible refine Mi.w_part ?_
  | with_reducible refine Mi.bl_ ?_
  | ((with_reducible show Mi.MU _ _); (with_reducible apply Mi.mu_own); (walk_at "lk"))
  | ((with_reducible show Mi.MU _ _); (with_reducible apply Mi.mu_io); (walk_at "lk"))
  | with_reducible refine Mi.dl_cons ?_
  | with_reducible refine Mi.dl_nil ?_
  | with_reducible refine Mi.w_none ?_
  | with_reducible refine Mi.io_of ?_
  | with_reducible refine Mi.w_itT ?_
  | with_reducible refine Mi.w_itL ?_
  | walk_at "fn")
local macro_rules | `(tactic| walk_at "w") => `(tactic| repeat (walk_at "w1"))
local macro_rules | `(tactic| walk_at "wd") => `(tactic| first
  | ((with_reducible refine Mi.if_p ?_ ?_); (first | with_reducible assumption | exact rfl | decide | omega))
  | ((with_reducible refine Mi.if_m ?_ ?_); (first | with_reducible assumption | exact rfl | decide | omega))
  | ((with_reducible refine Mi.if_np ?_ ?_); (first | with_reducible assumption | exact rfl | decide | omega))
  | ((with_reducible refine Mi.if_nm ?_ ?_); (first | with_reducible assumption | exact rfl | decide | omega)))
local macro_rules | `(tactic| walk_at "mo") => `(tactic| (walk_at "w"; (repeat (walk_at "wd"; walk_at "w"))))
local macro_rules | `(tactic| walk_at "env") => `(tactic| simp only [envP, envI, List.map_cons, List.map_nil, List.length_cons, List.length_nil, List.replicate, List.cons_append, List.nil_append, Nat.reduceAdd, Nat.reduceSub])

local macro_rules | `(tactic| walk_at "fn") => `(tactic| first | ((with_reducible show Mi.VAL _ _); (with_reducible apply Mi.t_left)) | ((with_reducible show Mi.Sat _ _); (with_reducible refine Mi.w_isiE ?_)) | ((with_reducible show Mi.Sat _ _); (with_reducible refine Mi.w_pkR ?_)) | ((with_reducible show Mi.Sat _ _); (with_reducible refine Mi.w_ext ?_)) | ((with_reducible show Mi.EXT _ _ _ _ _); (with_reducible apply Mi.ext_); (walk_at "side")) | ((with_reducible show Mi.SatA _ _); (with_reducible refine Mi.w_r3 ?_)) | ((with_reducible show Mi.Sat _ _); (first | with_reducible refine Mi.w_lr3 ?_ | with_reducible refine Mi.w_pop ?_ | with_reducible refine Mi.w_sj ?_ | with_reducible refine Mi.w_popAt ?_ | with_reducible refine Mi.w_lstS ?_ | with_reducible refine Mi.w_scj ?_ | with_reducible refine Mi.w_lc2 ?_ | with_reducible refine Mi.w_fld ?_ | with_reducible refine Mi.w_meth ?_ | with_reducible refine Mi.w_kg ?_ | with_reducible refine Mi.w_k1 ?_ | with_reducible refine Mi.w_kgI ?_ | with_reducible refine Mi.w_neV ?_ | with_reducible refine Mi.w_dinV ?_ | ((with_reducible apply Mi.w_lstV); (walk_at "lk")) | ((with_reducible apply Mi.w_isiV); (walk_at "lk")) | with_reducible refine Mi.w_m1 ?_ | ((with_reducible refine Mi.w_lcO ?_ ?_); (decide)))) | ((with_reducible show Mi.TG _ _); (with_reducible refine Mi.tg_guard ?_ ?_); (first | exact Mi.mu_own' (by walk_at "lk") | exact Mi.mu_io' (by walk_at "lk"))) | (with_reducible refine Mi.iss ?_) | (with_reducible refine Mi.io_of1 ?_) | ((with_reducible show Mi.SatS _ _ _ _ _ _); (first | with_reducible refine Mi.w_setF ?_ | with_reducible refine Mi.w_new ?_)) | ((with_reducible show Mi.SatA _ _); (first | with_reducible refine Mi.w_enum ?_ | with_reducible refine Mi.w_itS1 ?_ | with_reducible refine Mi.w_enumS ?_ | with_reducible refine Mi.w_zipS ?_)) | ((with_reducible show Mi.ENS _ _); (with_reducible apply Mi.ens_); (walk_at "side")) | ((with_reducible show Mi.ZPS _ _); (with_reducible refine Mi.zps_ ?_)) | ((with_reducible show Mi.KG _ _ _ _); (with_reducible refine Mi.kg_ ?_)) | ((with_reducible show Mi.KGI _ _ _ _); (with_reducible refine Mi.kgi_ ?_)) | ((with_reducible show Mi.VAL _ _); (first | with_reducible apply Mi.v_kin | with_reducible apply Mi.v_count)) | ((with_reducible show Mi.DIK _ _ _ _); (with_reducible refine Mi.dik_ ?_)) | ((with_reducible show Mi.VAL _ _); (with_reducible apply Mi.v_gne)) | ((with_reducible show Mi.TG _ _); (with_reducible apply Mi.tg_l); (exact rfl)) | ((with_reducible show Mi.EN _ _); (with_reducible refine Mi.en_ ?_)) | (with_reducible refine Mi.isst ?_) | ((with_reducible show Mi.VAL _ _); (first | with_reducible apply Mi.v_leS | with_reducible apply Mi.v_inS | with_reducible apply Mi.v_ninS | with_reducible apply Mi.v_start | with_reducible apply Mi.v_ends | with_reducible apply Mi.v_strS | ((with_reducible apply Mi.v_lenS); (walk_at "side")) | ((with_reducible apply Mi.v_ixS); (walk_at "side"); (walk_at "at")) | ((with_reducible apply Mi.v_repL); (walk_at "side")))) | ((with_reducible show Mi.SJ _ _); (with_reducible apply Mi.sj_); (walk_at "side")))
open TL
theorem ifv_c {b : Bool} {x y : PyData} {ρ : Mi.Env} {K : PyData → Mi.Env → Prop} (q : K (if b = true then x else y) ρ) : IFV b (Sat (mC x ρ) K) (Sat (mC y ρ) K) := by
  cases b with
  | true => show Sat (mC x ρ) K; exact ⟨_, _, rfl, q⟩
  | false => show Sat (mC y ρ) K; exact ⟨_, _, rfl, q⟩
theorem out_l {c : Cal} {T cs : List Nat} {k : Int} (h : RES c T cs = .inl k) : OUT c T cs = .int k := by unfold OUT; rw [h]
theorem out_r {c : Cal} {T cs : List Nat} {d : PyData} (h : RES c T cs = .inr d) : OUT c T cs = d := by unfold OUT; rw [h]
set_option maxHeartbeats 8000000 in
theorem told_go {c : Cal} {P T : Str} {Q : PyData → Prop} (hc : COk c) (hp : isP (tl P) = true) (hl : P.length ≤ 40) (ht : T.length ≤ 10000) (q : Q (OUT c (tl T) (tl P))) : SatP (runP 4 m__law_told [calD c, .str P, .str T]) Q := by
  refine run_P ?_
  walk_at "env"
  unfold m__law_told
  refine w_tryF ?_
  walk_at "mo"
  refine read_go hc hp hl ht (fun d h => ?_) (fun k h => ?_)
  · rw [out_r h] at q
    exact q
  · rw [out_l h] at q
    exact ⟨⟨rfl, by show 3 < 4; decide, rfl⟩, _, rfl, q⟩
set_option maxHeartbeats 8000000 in
theorem lread_go {c : Cal} {P T : Str} {Q : PyData → Prop} (hc : COk c) (hp : isP (tl P) = true) (hl : P.length ≤ 40) (ht : T.length ≤ 10000) (q : Q (OUT c (tl T) (tl P))) : SatP (runP 10 m__law_read [calD c, .str P, .str T]) Q := by
  have le : P.length = (tl P).length := len_tl P
  have lt : T.length = (tl T).length := len_tl T
  refine run_P ?_
  walk_at "env"
  unfold m__law_read
  walk_at "mo"
  have h0 : ∃ kds a g x5 x6 x7 x8, ([.val (calD c), .val (.str P), .val (.str T), .own (.dict (mergeD [] [(kD (Sum.inr ("H" : Str)), .int 0), (kD (Sum.inr ("N" : Str)), .int 0)])), .val (.int 0), .no, .no, .no, .no, .no] : Mi.Env) = [.val (calD c), .val (.str P), .val (.str T), .own (.dict kds), .val (.int ((a : Nat) : Int)), x5, x6, x7, x8, .no] ∧ notIo [x5] 0 = true ∧ notIo [x6] 0 = true ∧ notIo [x7] 0 = true ∧ notIo [x8] 0 = true ∧ KD kds g (2 + 0) ∧ RD (tl T) g0 0 (tl P) = RD (tl T) g a ((tl P).drop 0) ∧ a ≤ (tl T).length := ⟨_, 0, g0, .no, .no, .no, .no, rfl, rfl, rfl, rfl, rfl, kd0, rfl, by omega⟩
  with_reducible refine for_inv (fun i ρ => ∃ kds a g x5 x6 x7 x8, ρ = [.val (calD c), .val (.str P), .val (.str T), .own (.dict kds), .val (.int ((a : Nat) : Int)), x5, x6, x7, x8, .no] ∧ notIo [x5] 0 = true ∧ notIo [x6] 0 = true ∧ notIo [x7] 0 = true ∧ notIo [x8] 0 = true ∧ KD kds g (2 + i) ∧ RD (tl T) g0 0 (tl P) = RD (tl T) g a ((tl P).drop i) ∧ a ≤ (tl T).length) h0 (fun i x ρ hx hI => ?_) (fun ρ hI => ?_)
  · obtain ⟨kds, a, g, x5, x6, x7, x8, rfl, i5, i6, i7, i8, hk, hr, ha⟩ := hI
    have hx : ((tl P).map fun c => PyData.str ⟨#[c]⟩)[i]? = some x := hx
    rw [List.getElem?_map] at hx
    cases hi : (tl P)[i]? with
    | none => rw [hi] at hx; cases hx
    | some e =>
      rw [hi] at hx
      injection hx with hx
      have hx : PyData.str ⟨#[e]⟩ = x := hx
      subst hx
      have il : i < (tl P).length := (List.getElem?_eq_some_iff.mp hi).1
      have dr : (tl P).drop i = e :: (tl P).drop (i + 1) := by rw [List.drop_eq_getElem_cons il, (List.getElem?_eq_some_iff.mp hi).2]
      have w4 := wd_le e
      refine tg_n i5 ?_
      walk_at "mo"
      rw [eqY]
      refine ifv_c ?_
      refine tg_n i6 ?_
      walk_at "mo"
      rw [show inS ⟨#[e]⟩ "YMDHN" = isL e from inL e]
      cases zL : isL e with
      | true =>
        have we : (if decide (e = 89) = true then PyData.int 4 else PyData.int 2) = .int (wd e) := by
          by_cases h : e = 89
          · rw [decide_eq_true h, if_pos rfl, h]; rfl
          · rw [decide_eq_false h, if_neg Bool.false_ne_true, wd_L zL h]; rfl
        rw [we]
        walk_at "mo"
        rw [show ((a : Int) + (wd e : Int) - a).toNat = wd e by omega]
        have h1 : ∃ y7 y8, ([.val (calD c), .val (.str P), .val (.str T), .own (.dict kds), .val (.int ((a : Nat) : Int)), .val (.str ⟨#[e]⟩), .val (.int (wd e : Int)), x7, x8, .no] : Mi.Env) = [.val (calD c), .val (.str P), .val (.str T), .own (.dict kds), .val (.int ((a : Nat) : Int)), .val (.str ⟨#[e]⟩), .val (.int (wd e : Int)), y7, y8, .no] ∧ notIo [y7] 0 = true ∧ notIo [y8] 0 = true ∧ fb (tl T) e a (wd e) = fb (tl T) e (a + 0) (wd e - 0) ∧ a + 0 ≤ (tl T).length := ⟨x7, x8, rfl, i7, i8, rfl, ha⟩
        with_reducible refine for_inv (fun j ρ => ∃ y7 y8, ρ = [.val (calD c), .val (.str P), .val (.str T), .own (.dict kds), .val (.int ((a : Nat) : Int)), .val (.str ⟨#[e]⟩), .val (.int (wd e : Int)), y7, y8, .no] ∧ notIo [y7] 0 = true ∧ notIo [y8] 0 = true ∧ fb (tl T) e a (wd e) = fb (tl T) e (a + j) (wd e - j) ∧ a + j ≤ (tl T).length) h1 (fun j x2 ρ hx hJ => ?_) (fun ρ hJ => ?_)
        · obtain ⟨y7, y8, rfl, j7, j8, hf, hj⟩ := hJ
          obtain ⟨hjw, rfl⟩ := rngD_get hx
          obtain ⟨m, hm⟩ : ∃ m, wd e - j = m + 1 := ⟨wd e - j - 1, by omega⟩
          have hm2 : wd e - (j + 1) = m := by omega
          rw [hm] at hf
          have bad : good (tl T) e (a + j) = false → RES c (tl T) (tl P) = .inl ((a : Int) + j) := fun z => by
            have : fb (tl T) e a (wd e) = some (a + j) := by
              rw [hf]
              unfold fb
              rw [z]
              rfl
            rw [dr] at hr
            exact RES_bad hr this
          refine tg_n j7 ?_
          walk_at "mo"
          by_cases l : a + j < (tl T).length
          · have ge : good (tl T) e (a + j) = fit e ((tl T)[a + j]) := by
              unfold good
              rw [List.getElem?_eq_getElem l]
            have st : fb (tl T) e (a + j) (m + 1) = if good (tl T) e (a + j) = true then fb (tl T) e (a + j + 1) m else some (a + j) := rfl
            walk_at "mo"
            rw [show inS ⟨#[e]⟩ "YMDHN" = isL e from inL e]
            unfold fit at ge
            cases z : isL e with
            | true =>
              rw [z, if_pos rfl] at ge
              walk_at "mo"
              refine v_ixS (c := (tl T)[a + j]) (by omega) (by have := atI_nat (List.getElem?_eq_getElem l); rwa [Int.natCast_add] at this) ?_
              walk_at "mo"
              rw [show inS ⟨#[(tl T)[a + j]]⟩ "0123456789" = _ from inDig _, ← ge]
              refine tg_n j8 ?_
              cases gz : good (tl T) e (a + j) with
              | true =>
                rw [gz, if_pos rfl] at st
                walk_at "mo"
                exact ⟨_, _, rfl, rfl, rfl, by rw [hf, hm2, st]; rfl, by omega⟩
              | false =>
                walk_at "mo"
                rw [out_l (bad gz)] at q
                exact q
            | false =>
              rw [z, if_neg Bool.false_ne_true] at ge
              walk_at "mo"
              refine v_ixS (c := (tl T)[a + j]) (by omega) (by have := atI_nat (List.getElem?_eq_getElem l); rwa [Int.natCast_add] at this) ?_
              walk_at "mo"
              rw [show decide ((⟨#[(tl T)[a + j]]⟩ : Str) = ⟨#[e]⟩) = decide ((tl T)[a + j] = e) from by rw [Bool.eq_iff_iff, decide_eq_true_eq, decide_eq_true_eq]; exact ch_inj, ← ge]
              refine tg_n j8 ?_
              cases gz : good (tl T) e (a + j) with
              | true =>
                rw [gz, if_pos rfl] at st
                walk_at "mo"
                exact ⟨_, _, rfl, rfl, rfl, by rw [hf, hm2, st]; rfl, by omega⟩
              | false =>
                walk_at "mo"
                rw [out_l (bad gz)] at q
                exact q
          · have gz : good (tl T) e (a + j) = false := by
              cases z : good (tl T) e (a + j) with
              | false => rfl
              | true => exact absurd (good_lt z) l
            walk_at "mo"
            refine tg_n j8 ?_
            walk_at "mo"
            rw [out_l (bad gz)] at q
            exact q
        · obtain ⟨y7, y8, rfl, j7, j8, hf, hj⟩ := hJ
          rw [rngD_len, Nat.sub_self] at hf
          rw [rngD_len] at hj
          have hf : fb (tl T) e a (wd e) = none := hf
          have hr2 : RD (tl T) g0 0 (tl P) = RD (tl T) (step (tl T) g a e) (a + wd e) ((tl P).drop (i + 1)) := by
            rw [hr, dr]
            conv => lhs; unfold RD
            rw [hf]
          unfold step at hr2
          have aw : (a : Int) + (wd e : Int) = ((a + wd e : Nat) : Int) := by omega
          walk_at "mo"
          rw [show inS ⟨#[e]⟩ "YMDHN" = isL e from inL e]
          cases z : isL e with
          | true =>
            rw [z, if_pos rfl] at hr2
            have tc : tl (cutS T (some ((a : Nat) : Int)) (some ((a : Int) + (wd e : Int)))) = ((tl T).drop a).take (wd e) := by
              have := tl_cut T a (a + wd e) (by omega) hj
              rw [aw]
              rwa [Nat.add_sub_cancel_left] at this
            have it : PySem.intText? (cutS T (some ((a : Nat) : Int)) (some ((a : Int) + (wd e : Int)))) = some (numA (tl T) a (wd e)) := by
              have ad := dig_ok hf z
              rw [← tc] at ad
              have := PySem.intText_digits ad (by
                intro q
                have := congrArg List.length (tc.symm.trans q)
                rw [List.length_take, List.length_drop, List.length_nil] at this
                omega) (by rw [len_tl, tc, List.length_take]; omega)
              rw [this]
              unfold numA
              rw [← tc]
            walk_at "mo"
            refine w_putO ?_
            walk_at "mo"
            refine v_slS (by omega) ?_
            walk_at "mo"
            refine v_intS (by rw [len_tl, tc, List.length_take]; omega) it ?_
            walk_at "mo"
            refine ⟨_, _, rfl, rfl, by have := hk.len; omega, ?_⟩
            walk_at "mo"
            exact ⟨_, a + wd e, _, _, _, _, _, by rw [aw], rfl, rfl, j7, j8, by have := hk.put e (numA (tl T) a (wd e)); rwa [Nat.add_assoc] at this, hr2, hj⟩
          | false =>
            rw [z, if_neg Bool.false_ne_true] at hr2
            walk_at "mo"
            exact ⟨kds, a + wd e, g, _, _, _, _, by rw [aw], rfl, rfl, j7, j8, ⟨by have := hk.len; omega, hk.key, hk.val⟩, hr2, hj⟩
      | false =>
        have we : (1 : Int) = (wd e : Int) := by rw [wd_no zL]; rfl
        walk_at "mo"
        rw [show ((a : Int) + 1 - a).toNat = wd e by omega]
        have h1 : ∃ y7 y8, ([.val (calD c), .val (.str P), .val (.str T), .own (.dict kds), .val (.int ((a : Nat) : Int)), .val (.str ⟨#[e]⟩), .val (.int 1), x7, x8, .no] : Mi.Env) = [.val (calD c), .val (.str P), .val (.str T), .own (.dict kds), .val (.int ((a : Nat) : Int)), .val (.str ⟨#[e]⟩), .val (.int 1), y7, y8, .no] ∧ notIo [y7] 0 = true ∧ notIo [y8] 0 = true ∧ fb (tl T) e a (wd e) = fb (tl T) e (a + 0) (wd e - 0) ∧ a + 0 ≤ (tl T).length := ⟨x7, x8, rfl, i7, i8, rfl, ha⟩
        with_reducible refine for_inv (fun j ρ => ∃ y7 y8, ρ = [.val (calD c), .val (.str P), .val (.str T), .own (.dict kds), .val (.int ((a : Nat) : Int)), .val (.str ⟨#[e]⟩), .val (.int 1), y7, y8, .no] ∧ notIo [y7] 0 = true ∧ notIo [y8] 0 = true ∧ fb (tl T) e a (wd e) = fb (tl T) e (a + j) (wd e - j) ∧ a + j ≤ (tl T).length) h1 (fun j x2 ρ hx hJ => ?_) (fun ρ hJ => ?_)
        · obtain ⟨y7, y8, rfl, j7, j8, hf, hj⟩ := hJ
          obtain ⟨hjw, rfl⟩ := rngD_get hx
          obtain ⟨m, hm⟩ : ∃ m, wd e - j = m + 1 := ⟨wd e - j - 1, by omega⟩
          have hm2 : wd e - (j + 1) = m := by omega
          rw [hm] at hf
          have bad : good (tl T) e (a + j) = false → RES c (tl T) (tl P) = .inl ((a : Int) + j) := fun z => by
            have : fb (tl T) e a (wd e) = some (a + j) := by
              rw [hf]
              unfold fb
              rw [z]
              rfl
            rw [dr] at hr
            exact RES_bad hr this
          refine tg_n j7 ?_
          walk_at "mo"
          by_cases l : a + j < (tl T).length
          · have ge : good (tl T) e (a + j) = fit e ((tl T)[a + j]) := by
              unfold good
              rw [List.getElem?_eq_getElem l]
            have st : fb (tl T) e (a + j) (m + 1) = if good (tl T) e (a + j) = true then fb (tl T) e (a + j + 1) m else some (a + j) := rfl
            walk_at "mo"
            rw [show inS ⟨#[e]⟩ "YMDHN" = isL e from inL e]
            unfold fit at ge
            cases z : isL e with
            | true =>
              rw [z, if_pos rfl] at ge
              walk_at "mo"
              refine v_ixS (c := (tl T)[a + j]) (by omega) (by have := atI_nat (List.getElem?_eq_getElem l); rwa [Int.natCast_add] at this) ?_
              walk_at "mo"
              rw [show inS ⟨#[(tl T)[a + j]]⟩ "0123456789" = _ from inDig _, ← ge]
              refine tg_n j8 ?_
              cases gz : good (tl T) e (a + j) with
              | true =>
                rw [gz, if_pos rfl] at st
                walk_at "mo"
                exact ⟨_, _, rfl, rfl, rfl, by rw [hf, hm2, st]; rfl, by omega⟩
              | false =>
                walk_at "mo"
                rw [out_l (bad gz)] at q
                exact q
            | false =>
              rw [z, if_neg Bool.false_ne_true] at ge
              walk_at "mo"
              refine v_ixS (c := (tl T)[a + j]) (by omega) (by have := atI_nat (List.getElem?_eq_getElem l); rwa [Int.natCast_add] at this) ?_
              walk_at "mo"
              rw [show decide ((⟨#[(tl T)[a + j]]⟩ : Str) = ⟨#[e]⟩) = decide ((tl T)[a + j] = e) from by rw [Bool.eq_iff_iff, decide_eq_true_eq, decide_eq_true_eq]; exact ch_inj, ← ge]
              refine tg_n j8 ?_
              cases gz : good (tl T) e (a + j) with
              | true =>
                rw [gz, if_pos rfl] at st
                walk_at "mo"
                exact ⟨_, _, rfl, rfl, rfl, by rw [hf, hm2, st]; rfl, by omega⟩
              | false =>
                walk_at "mo"
                rw [out_l (bad gz)] at q
                exact q
          · have gz : good (tl T) e (a + j) = false := by
              cases z : good (tl T) e (a + j) with
              | false => rfl
              | true => exact absurd (good_lt z) l
            walk_at "mo"
            refine tg_n j8 ?_
            walk_at "mo"
            rw [out_l (bad gz)] at q
            exact q
        · obtain ⟨y7, y8, rfl, j7, j8, hf, hj⟩ := hJ
          rw [rngD_len, Nat.sub_self] at hf
          rw [rngD_len] at hj
          have hf : fb (tl T) e a (wd e) = none := hf
          have hr2 : RD (tl T) g0 0 (tl P) = RD (tl T) (step (tl T) g a e) (a + wd e) ((tl P).drop (i + 1)) := by
            rw [hr, dr]
            conv => lhs; unfold RD
            rw [hf]
          unfold step at hr2
          have aw : (a : Int) + 1 = ((a + wd e : Nat) : Int) := by omega
          walk_at "mo"
          rw [show inS ⟨#[e]⟩ "YMDHN" = isL e from inL e]
          cases z : isL e with
          | true =>
            rw [z, if_pos rfl] at hr2
            have tc : tl (cutS T (some ((a : Nat) : Int)) (some ((a : Int) + 1))) = ((tl T).drop a).take (wd e) := by
              have := tl_cut T a (a + wd e) (by omega) hj
              rw [aw]
              rwa [Nat.add_sub_cancel_left] at this
            have it : PySem.intText? (cutS T (some ((a : Nat) : Int)) (some ((a : Int) + 1))) = some (numA (tl T) a (wd e)) := by
              have ad := dig_ok hf z
              rw [← tc] at ad
              have := PySem.intText_digits ad (by
                intro q
                have := congrArg List.length (tc.symm.trans q)
                rw [List.length_take, List.length_drop, List.length_nil] at this
                omega) (by rw [len_tl, tc, List.length_take]; omega)
              rw [this]
              unfold numA
              rw [← tc]
            walk_at "mo"
            refine w_putO ?_
            walk_at "mo"
            refine v_slS (by omega) ?_
            walk_at "mo"
            refine v_intS (by rw [len_tl, tc, List.length_take]; omega) it ?_
            walk_at "mo"
            refine ⟨_, _, rfl, rfl, by have := hk.len; omega, ?_⟩
            walk_at "mo"
            exact ⟨_, a + wd e, _, _, _, _, _, by rw [aw], rfl, rfl, j7, j8, by have := hk.put e (numA (tl T) a (wd e)); rwa [Nat.add_assoc] at this, hr2, hj⟩
          | false =>
            rw [z, if_neg Bool.false_ne_true] at hr2
            walk_at "mo"
            exact ⟨kds, a + wd e, g, _, _, _, _, by rw [aw], rfl, rfl, j7, j8, ⟨by have := hk.len; omega, hk.key, hk.val⟩, hr2, hj⟩
  · obtain ⟨kds, a, g, x5, x6, x7, x8, rfl, i5, i6, i7, i8, hk, hr, ha⟩ := hI
    rw [show (Mi.signs P).length = (tl P).length from List.length_map .., List.drop_length] at hr
    have hr : RD (tl T) g0 0 (tl P) = .inr (a, g) := hr
    walk_at "mo"
    have has : ∀ c, ((g0 c).isSome = true ∨ (c ∈ tl P ∧ isL c = true)) → (g c).isSome = true := fun c h => RD_has _ _ _ _ _ hr h
    by_cases h1 : a < (tl T).length
    · have r : RES c (tl T) (tl P) = .inl a := by unfold RES; rw [hr]; show (if a < (tl T).length then _ else _) = _; rw [if_pos h1]
      rw [out_l r] at q
      walk_at "mo"
      exact q
    · have r : RES c (tl T) (tl P) = if FLAW c (G g 89) (G g 77) (G g 68) = "" ∧ G g 72 < 24 ∧ G g 78 < 60 then .inr (.tuple [.tuple [.int (G g 89), .int (G g 77), .int (G g 68)], .int (60 * G g 72 + G g 78)]) else .inl (-1) := by unfold RES; rw [hr]; show (if a < (tl T).length then _ else _) = _; rw [if_neg h1]
      walk_at "mo"
      obtain ⟨m1, m2, m3⟩ := isP_mem hp
      have s1 := has 89 (.inr ⟨m1, rfl⟩)
      have s2 := has 77 (.inr ⟨m2, rfl⟩)
      have s3 := has 68 (.inr ⟨m3, rfl⟩)
      have s4 := has 72 (.inl rfl)
      have s5 := has 78 (.inl rfl)
      refine v_kd hk sY s1 ?_
      walk_at "mo"
      refine v_kd hk sM s2 ?_
      walk_at "mo"
      refine v_kd hk sD s3 ?_
      walk_at "mo"
      refine w_tryO ?_
      walk_at "mo"
      refine dayX_go hc (fun b3 t _ _ => ?_) (fun b3 => ?_)
      · walk_at "mo"
        refine v_kd hk sH s4 ?_
        by_cases b1 : G g 72 < 24
        · walk_at "mo"
          refine v_kd hk sN s5 ?_
          by_cases b2 : G g 78 < 60
          · rw [if_pos ⟨b3, b1, b2⟩] at r
            rw [out_r r] at q
            walk_at "mo"
            refine v_kd hk sH s4 ?_
            walk_at "mo"
            refine v_kd hk sN s5 ?_
            walk_at "mo"
            exact q
          · rw [if_neg fun z => b2 z.2.2] at r
            rw [out_l r] at q
            walk_at "mo"
            exact q
        · rw [if_neg fun z => b1 z.2.1] at r
          rw [out_l r] at q
          walk_at "mo"
          exact q
      · rw [if_neg fun z => b3 z.1] at r
        rw [out_l r] at q
        walk_at "mo"
        refine ⟨rfl, ?_⟩
        walk_at "mo"
        exact q

end K33

set_option Elab.async false
set_option linter.all false
set_option maxRecDepth 100000
namespace K33
open PySem hiding Env ret
open PySem.Spec PyProof.Rows L2 Mi
/-! the walk over mirrors -/
local macro_rules | `(tactic| walk_at "lk") => `(tactic| first | exact Mi.lk0 | exact Mi.lk1 | exact Mi.lk2 | exact Mi.lk3 | exact Mi.lk4 | exact Mi.lk5 | exact Mi.lk6 | exact Mi.lk7 | exact Mi.lk8 | exact Mi.lk9 | exact Mi.lk10 | exact Mi.lk11 | exact Mi.lk12 | exact Mi.lk13 | exact Mi.lk14 | exact Mi.lk15 | exact Mi.lk16 | exact Mi.lk17 | exact Mi.lk18 | exact Mi.lk19 | exact Mi.lk20 | exact Mi.lk21 | exact Mi.lk22 | exact Mi.lk23 | exact Mi.lk24 | exact Mi.lk25 | exact Mi.lk26 | exact Mi.lk27 | exact Mi.lk28 | exact Mi.lk29 | exact Mi.lk30 | exact Mi.lk31 | exact Mi.lk32 | exact Mi.lk33 | exact Mi.lk34 | exact Mi.lk35 | exact Mi.lk36 | exact Mi.lk37 | exact Mi.lk38 | exact Mi.lk39)
local macro_rules | `(tactic| walk_at "st") => `(tactic| first | with_reducible refine Mi.st0 ?_ | with_reducible refine Mi.st1 ?_ | with_reducible refine Mi.st2 ?_ | with_reducible refine Mi.st3 ?_ | with_reducible refine Mi.st4 ?_ | with_reducible refine Mi.st5 ?_ | with_reducible refine Mi.st6 ?_ | with_reducible refine Mi.st7 ?_ | with_reducible refine Mi.st8 ?_ | with_reducible refine Mi.st9 ?_ | with_reducible refine Mi.st10 ?_ | with_reducible refine Mi.st11 ?_ | with_reducible refine Mi.st12 ?_ | with_reducible refine Mi.st13 ?_ | with_reducible refine Mi.st14 ?_ | with_reducible refine Mi.st15 ?_ | with_reducible refine Mi.st16 ?_ | with_reducible refine Mi.st17 ?_ | with_reducible refine Mi.st18 ?_ | with_reducible refine Mi.st19 ?_ | with_reducible refine Mi.st20 ?_ | with_reducible refine Mi.st21 ?_ | with_reducible refine Mi.st22 ?_ | with_reducible refine Mi.st23 ?_ | with_reducible refine Mi.st24 ?_ | with_reducible refine Mi.st25 ?_ | with_reducible refine Mi.st26 ?_ | with_reducible refine Mi.st27 ?_ | with_reducible refine Mi.st28 ?_ | with_reducible refine Mi.st29 ?_ | with_reducible refine Mi.st30 ?_ | with_reducible refine Mi.st31 ?_ | with_reducible refine Mi.st32 ?_ | with_reducible refine Mi.st33 ?_ | with_reducible refine Mi.st34 ?_ | with_reducible refine Mi.st35 ?_ | with_reducible refine Mi.st36 ?_ | with_reducible refine Mi.st37 ?_ | with_reducible refine Mi.st38 ?_ | with_reducible refine Mi.st39 ?_)
local macro_rules | `(tactic| walk_at "at") => `(tactic| first | with_reducible assumption | exact Rd.at0 | exact Rd.at1 | exact Rd.at2 | exact Rd.at3 | exact Rd.at4)
local macro_rules | `(tactic| walk_at "side") => `(tactic| first | with_reducible assumption | omega | (constructor <;> omega) | (refine Or.inl ⟨?_, ?_⟩ <;> omega) | (refine Or.inr ⟨?_, ?_⟩ <;> omega) | (simp only [List.length_cons, List.length_nil, List.length_append, List.length_map]; omega) | ((refine ⟨⟨?_, ?_⟩, ?_, ?_⟩) <;> omega))
local macro_rules | `(tactic| walk_at "fn") => `(tactic| fail)
local macro_rules | `(tactic| walk_at "w1") => `(tactic| first
  | ((with_reducible show Mi.SatS _ _ _ _ _ _); (first | with_reducible refine Mi.w_seq ?_ | with_reducible refine Mi.w_retIf ?_ | with_reducible refine Mi.w_retX ?_ | with_reducible refine Mi.w_asgX ?_ | with_reducible refine Mi.w_dropX ?_ | with_reducible refine Mi.w_raise ?_ | with_reducible refine Mi.w_asg ?_ | with_reducible refine Mi.w_ifS ?_ | with_reducible refine Mi.w_drop ?_ | with_reducible refine Mi.w_ret ?_ | with_reducible refine Mi.w_next ?_ | with_reducible refine Mi.w_for ?_ | with_reducible refine Mi.w_retN ?_ | with_reducible refine Mi.w_brk ?_ | with_reducible refine Mi.w_cnt ?_ | with_reducible refine Mi.w_while ?_ | with_reducible refine Mi.w_setO ?_))
  | ((with_reducible show Mi.Sat _ _); (first | ((with_reducible apply Mi.w_val); (walk_at "lk")) | with_reducible refine Mi.w_c ?_ | with_reducible refine Mi.w_op ?_ | with_reducible refine Mi.w_call ?_ | with_reducible refine Mi.w_callI ?_ | with_reducible refine Mi.w_tup ?_ | with_reducible refine Mi.w_getV ?_ | with_reducible refine Mi.w_ixV ?_ | ((with_reducible apply Mi.w_pkv); (walk_at "lk")) | with_reducible refine Mi.w_peek ?_ | with_reducible refine Mi.w_cb ?_ | with_reducible refine Mi.w_lst ?_ | with_reducible refine Mi.w_un ?_ | ((with_reducible apply Mi.w_ownA); (walk_at "lk"); (exact rfl)) | with_reducible refine Mi.w_andV ?_ | with_reducible refine Mi.w_orV ?_ | with_reducible refine Mi.w_notV ?_ | with_reducible refine Mi.w_if ?_ | with_reducible refine Mi.w_chain ?_ | with_reducible refine Mi.w_sl ?_ | with_reducible refine Mi.w_get ?_ | with_reducible refine Mi.w_d0 ?_ | with_reducible refine Mi.w_dict ?_ | with_reducible refine Mi.w_tupS ?_ | with_reducible refine Mi.w_app ?_ | with_reducible refine Mi.w_lcw ?_ | with_reducible refine Mi.w_js1 ?_ | with_reducible refine Mi.w_js0 ?_ | ((with_reducible apply Mi.w_lenO); (walk_at "lk")) | ((with_reducible apply Mi.w_lenv); (walk_at "lk"))))
  | ((with_reducible show Mi.SatT _ _); (first | with_reducible refine Mi.w_B ?_ | with_reducible refine Mi.w_andT ?_ | with_reducible refine Mi.w_orT ?_ | with_reducible refine Mi.w_notT ?_ | with_reducible refine Mi.w_yes ?_))
  | ((with_reducible show Mi.SatA _ _); (first | with_reducible refine Mi.w_nil ?_ | with_reducible refine Mi.w_cons ?_ | with_reducible refine Mi.w_snil ?_ | with_reducible refine Mi.w_sone ?_ | with_reducible refine Mi.w_sstar ?_ | with_reducible refine Mi.w_r1 ?_ | with_reducible refine Mi.w_r2 ?_ | with_reducible refine Mi.w_itL1 ?_ | with_reducible refine Mi.w_itT1 ?_))
  | ((with_reducible show Mi.VAL _ _); (first | with_reducible apply Mi.v_add | with_reducible apply Mi.v_sub | with_reducible apply Mi.v_eqI | with_reducible apply Mi.v_lt | with_reducible apply Mi.v_le | with_reducible apply Mi.v_gt | with_reducible apply Mi.v_ge | with_reducible apply Mi.v_neI | ((with_reducible apply Mi.v_ixL); (walk_at "at")) | ((with_reducible apply Mi.v_ixT); (walk_at "at")) | ((with_reducible apply Mi.v_mul); (walk_at "side")) | ((with_reducible apply Mi.v_div); (walk_at "side")) | ((with_reducible apply Mi.v_mod); (walk_at "side")) | with_reducible apply Mi.v_neg | with_reducible apply Mi.v_eqS | with_reducible apply Mi.v_eqB | with_reducible apply Mi.v_neS | with_reducible apply Mi.v_neB | with_reducible apply Mi.v_eqNI | with_reducible apply Mi.v_neNI | with_reducible apply Mi.v_isN | with_reducible apply Mi.v_notN | with_reducible apply Mi.v_lenL | with_reducible apply Mi.v_lenT | with_reducible apply Mi.v_abs | with_reducible apply Mi.v_int | with_reducible apply Mi.v_intB | with_reducible apply Mi.v_min2 | with_reducible apply Mi.v_max2 | with_reducible apply Mi.v_tupL | with_reducible apply Mi.v_tupT | with_reducible apply Mi.v_lstL | with_reducible apply Mi.v_lstT | with_reducible apply Mi.v_slT | with_reducible apply Mi.v_slL | ((with_reducible apply Mi.v_pow); (decide)) | ((with_reducible apply Mi.v_catL); (walk_at "side")) | ((with_reducible apply Mi.v_catT); (walk_at "side")) | ((with_reducible apply Mi.v_divmod); (walk_at "side")) | ((with_reducible apply Mi.v_fmt2); (walk_at "side")) | walk_at "fn"))
  | ((with_reducible show Mi.IFV _ _ _); (first | with_reducible refine Mi.if_t ?_ | with_reducible refine Mi.if_f ?_ | with_reducible refine Mi.if_nt ?_ | with_reducible refine Mi.if_nf ?_ | with_reducible refine Mi.if_n1 ?_ | with_reducible refine Mi.if_n2 ?_ | with_reducible refine Mi.if_n3 ?_ | with_reducible refine Mi.if_n4 ?_ | with_reducible refine Mi.if_n5 ?_ | with_reducible refine Mi.if_n6 ?_))
  | ((with_reducible show Mi.SETS _ _); (first | walk_at "st" | (with_reducible refine Mi.put_own (by walk_at "lk") ?_) | (with_reducible refine Mi.put_io (by walk_at "lk") ?_)))
  | ((with_reducible show Mi.TG _ _); (first | ((with_reducible apply Mi.tg_n); (exact rfl)) | ((with_reducible apply Mi.tg_t); (exact rfl))))
  | ((with_reducible show Mi.TGS _ _); (first | with_reducible refine Mi.tgs_cons ?_ | with_reducible refine Mi.tgs_nil ?_))
  | ((with_reducible show Mi.LCB _ _ _); (with_reducible apply Mi.lcb); (exact rfl))
  | ((with_reducible show Mi.WIPE _ _); (first | with_reducible refine Mi.wp1 ?_ | with_reducible refine Mi.wp2 ?_ | ((with_reducible refine Mi.rs1 ?_ ?_); (walk_at "lk")) | ((with_reducible refine Mi.rs1v (d := ?_) ?_ ?_); (walk_at "lk")) | ((with_reducible refine Mi.rs2 ?_ ?_ ?_); (walk_at "lk"); (walk_at "lk"))))
  | ((with_reducible show Mi.SETO _ _ _ _); (with_reducible apply Mi.seto); (exact rfl))
  | with_reducible refine Mi.isl ?_
  | ((with_reducible show Mi.APP _ _ _ _ _); (with_reducible apply Mi.app_); (walk_at "side"))
  | ((with_reducible show Mi.LEQ _ _); (with_reducible apply Mi.leq); (walk_at "side"))
  | with_reducible refine Mi.isls ?_
  | with_reducible refine Mi.ists ?_
  | ((with_reducible show Mi.R1 _ _); (with_reducible apply Mi.r1_); (walk_at "side"))
  | ((with_reducible show Mi.R2 _ _); (with_reducible apply Mi.r2_); (walk_at "side"))
  | with_reducible refine Mi.prt ?_
  | with_reducible refine Mi.w_part ?_
  | with_reducible refine Mi.bl_ ?_
  | ((with_reducible show Mi.MU _ _); (with_reducible apply Mi.mu_own); (walk_at "lk"))
  | ((with_reducible show Mi.MU _ _); (with_reducible apply Mi.mu_io); (walk_at "lk"))
  | with_reducible refine Mi.dl_cons ?_
  | with_reducible refine Mi.dl_nil ?_
  | with_reducible refine Mi.w_none ?_
  | with_reducible refine Mi.io_of ?_
  | with_reducible refine Mi.w_itT ?_
  | with_reducible refine Mi.w_itL ?_
  | walk_at "fn")
local macro_rules | `(tactic| walk_at "w") => `(tactic| repeat (walk_at "w1"))
local macro_rules | `(tactic| walk_at "wd") => `(tactic| first
  | ((with_reducible refine Mi.if_p ?_ ?_); (first | with_reducible assumption | exact rfl | decide | omega))
  | ((with_reducible refine Mi.if_m ?_ ?_); (first | with_reducible assumption | exact rfl | decide | omega))
  | ((with_reducible refine Mi.if_np ?_ ?_); (first | with_reducible assumption | exact rfl | decide | omega))
  | ((with_reducible refine Mi.if_nm ?_ ?_); (first | with_reducible assumption | exact rfl | decide | omega)))
local macro_rules | `(tactic| walk_at "mo") => `(tactic| (walk_at "w"; (repeat (walk_at "wd"; walk_at "w"))))
local macro_rules | `(tactic| walk_at "env") => `(tactic| simp only [envP, envI, List.map_cons, List.map_nil, List.length_cons, List.length_nil, List.replicate, List.cons_append, List.nil_append, Nat.reduceAdd, Nat.reduceSub])

local macro_rules | `(tactic| walk_at "fn") => `(tactic| first | ((with_reducible show Mi.VAL _ _); (with_reducible apply Mi.t_left)) | ((with_reducible show Mi.Sat _ _); (with_reducible refine Mi.w_isiE ?_)) | ((with_reducible show Mi.Sat _ _); (with_reducible refine Mi.w_pkR ?_)) | ((with_reducible show Mi.Sat _ _); (with_reducible refine Mi.w_ext ?_)) | ((with_reducible show Mi.EXT _ _ _ _ _); (with_reducible apply Mi.ext_); (walk_at "side")) | ((with_reducible show Mi.SatA _ _); (with_reducible refine Mi.w_r3 ?_)) | ((with_reducible show Mi.Sat _ _); (first | with_reducible refine Mi.w_lr3 ?_ | with_reducible refine Mi.w_pop ?_ | with_reducible refine Mi.w_sj ?_ | with_reducible refine Mi.w_popAt ?_ | with_reducible refine Mi.w_lstS ?_ | with_reducible refine Mi.w_scj ?_ | with_reducible refine Mi.w_lc2 ?_ | with_reducible refine Mi.w_fld ?_ | with_reducible refine Mi.w_meth ?_ | with_reducible refine Mi.w_kg ?_ | with_reducible refine Mi.w_k1 ?_ | with_reducible refine Mi.w_kgI ?_ | with_reducible refine Mi.w_neV ?_ | with_reducible refine Mi.w_dinV ?_ | ((with_reducible apply Mi.w_lstV); (walk_at "lk")) | ((with_reducible apply Mi.w_isiV); (walk_at "lk")) | with_reducible refine Mi.w_m1 ?_ | ((with_reducible refine Mi.w_lcO ?_ ?_); (decide)))) | ((with_reducible show Mi.TG _ _); (with_reducible refine Mi.tg_guard ?_ ?_); (first | exact Mi.mu_own' (by walk_at "lk") | exact Mi.mu_io' (by walk_at "lk"))) | (with_reducible refine Mi.iss ?_) | (with_reducible refine Mi.io_of1 ?_) | ((with_reducible show Mi.SatS _ _ _ _ _ _); (first | with_reducible refine Mi.w_setF ?_ | with_reducible refine Mi.w_new ?_)) | ((with_reducible show Mi.SatA _ _); (first | with_reducible refine Mi.w_enum ?_ | with_reducible refine Mi.w_itS1 ?_ | with_reducible refine Mi.w_enumS ?_ | with_reducible refine Mi.w_zipS ?_)) | ((with_reducible show Mi.ENS _ _); (with_reducible apply Mi.ens_); (walk_at "side")) | ((with_reducible show Mi.ZPS _ _); (with_reducible refine Mi.zps_ ?_)) | ((with_reducible show Mi.KG _ _ _ _); (with_reducible refine Mi.kg_ ?_)) | ((with_reducible show Mi.KGI _ _ _ _); (with_reducible refine Mi.kgi_ ?_)) | ((with_reducible show Mi.VAL _ _); (first | with_reducible apply Mi.v_kin | with_reducible apply Mi.v_count)) | ((with_reducible show Mi.DIK _ _ _ _); (with_reducible refine Mi.dik_ ?_)) | ((with_reducible show Mi.VAL _ _); (with_reducible apply Mi.v_gne)) | ((with_reducible show Mi.TG _ _); (with_reducible apply Mi.tg_l); (exact rfl)) | ((with_reducible show Mi.EN _ _); (with_reducible refine Mi.en_ ?_)) | (with_reducible refine Mi.isst ?_) | ((with_reducible show Mi.VAL _ _); (first | with_reducible apply Mi.v_leS | with_reducible apply Mi.v_inS | with_reducible apply Mi.v_ninS | with_reducible apply Mi.v_start | with_reducible apply Mi.v_ends | with_reducible apply Mi.v_strS | ((with_reducible apply Mi.v_lenS); (walk_at "side")) | ((with_reducible apply Mi.v_ixS); (walk_at "side"); (walk_at "at")) | ((with_reducible apply Mi.v_repL); (walk_at "side")))) | ((with_reducible show Mi.SJ _ _); (with_reducible apply Mi.sj_); (walk_at "side")))
open TL
theorem pickS {T : PyData} {ys : List Str} {Q : PyData → PyData → Prop} (h : TapeOk T) (h0 : 0 < ys.length) (h1 : ys.length < 1000000) (q : ∀ y T', y ∈ ys → TapeOk T' → Q (.str y) T') : SatI (runI 2 m__law_pick T [.list (ys.map .str)]) Q := by
  refine pick_go h (by rw [List.length_map]; exact h0) (by rw [List.length_map]; exact h1) fun d T' hd h' => ?_
  obtain ⟨y, hy, rfl⟩ := List.mem_map.mp hd
  exact q y T' hy h'
theorem adl (a b : Str) : (a ++ b).length = a.length + b.length := by rw [len_tl, len_tl a, len_tl b, tl_append, List.length_append]
theorem er_map (ls : List Str) (k : Nat) : (ls.map PyData.str).eraseIdx k = (ls.eraseIdx k).map .str := by
  induction ls generalizing k with
  | nil => rfl
  | cons a ls ih =>
    cases k with
    | zero => rfl
    | succ k => rw [List.map_cons, List.eraseIdx_cons_succ, List.eraseIdx_cons_succ, List.map_cons, ih]
theorem cut_len (x : Str) (lo hi : Option Int) : (cutS x lo hi).length ≤ x.length := by
  rw [len_tl, len_tl x]
  have e : tl (cutS x lo hi) = ((tl x).drop (HT.sIx x.length 0 lo)).take (HT.sIx x.length x.length hi - HT.sIx x.length 0 lo) := List.toList_toArray ..
  rw [e, List.length_take, List.length_drop]
  omega
set_option maxHeartbeats 8000000 in
theorem pat_go {T : PyData} {Q : PyData → PyData → Prop} (hT : TapeOk T) (q : ∀ (P : Str) T', P.length ≤ 100 → TapeOk T' → Q (.str P) T') : SatI (runI 4 m__law_pattern T []) Q := by
  refine run_I ?_
  walk_at "env"
  unfold m__law_pattern
  walk_at "mo"
  refine pick_go hT (by decide) (by decide) fun d T1 hd hT1 => ?_
  have e : ∃ w : List Str, d = .list (w.map .str) ∧ w.length ≤ 2 ∧ ∀ y ∈ w, y.length ≤ 1 := by
    simp only [List.mem_cons, List.not_mem_nil, or_false] at hd
    rcases hd with rfl | rfl | rfl | rfl
    · exact ⟨[], rfl, by decide, by decide +kernel⟩
    · exact ⟨["H", "N"], rfl, by decide, by decide +kernel⟩
    · exact ⟨["N"], rfl, by decide, by decide +kernel⟩
    · exact ⟨["H"], rfl, by decide, by decide +kernel⟩
  obtain ⟨w, rfl, w2, w1⟩ := e
  walk_at "mo"
  have le3 : ∀ y ∈ (["Y", "M", "D"] : List Str), y.length ≤ 1 := by decide +kernel
  rw [show ([PyData.str "Y", PyData.str "M", PyData.str "D"] ++ w.map PyData.str) = ((["Y", "M", "D"] : List Str) ++ w).map .str from by rw [List.map_append]; rfl]
  have lsl : ((["Y", "M", "D"] : List Str) ++ w).length = w.length + 3 := by rw [List.length_append]; show 3 + _ = _; omega
  have lall : ∀ y ∈ (["Y", "M", "D"] : List Str) ++ w, y.length ≤ 1 := fun y hy => (List.mem_append.mp hy).elim (le3 y) (w1 y)
  generalize (["Y", "M", "D"] : List Str) ++ w = ls0 at lsl lall ⊢
  rw [show ((((ls0.map PyData.str).length : Nat) : Int)).toNat = w.length + 3 from by rw [List.length_map, lsl]; omega]
  have h0 : ∃ (T : PyData) (ls : List Str) (s : Str) (x3 : Sl), ([.io T1, .own (.list (ls0.map .str)), .val (.str ""), .no] : Mi.Env) = [.io T, .own (.list (ls.map .str)), .val (.str s), x3] ∧ notIo [x3] 0 = true ∧ TapeOk T ∧ ls.length + 0 = w.length + 3 ∧ (∀ y ∈ ls, y.length ≤ 1) ∧ s.length ≤ 3 * 0 := ⟨T1, ls0, "", .no, rfl, rfl, hT1, by omega, lall, by decide +kernel⟩
  with_reducible refine for_inv (fun i ρ => ∃ (T : PyData) (ls : List Str) (s : Str) (x3 : Sl), ρ = [.io T, .own (.list (ls.map .str)), .val (.str s), x3] ∧ notIo [x3] 0 = true ∧ TapeOk T ∧ ls.length + i = w.length + 3 ∧ (∀ y ∈ ls, y.length ≤ 1) ∧ s.length ≤ 3 * i) h0 (fun i x ρ hx hI => ?_) (fun ρ hI => ?_)
  · obtain ⟨T2, ls, s, x3, rfl, i3, hT2, hl, h1, hs⟩ := hI
    obtain ⟨hi, rfl⟩ := rngD_get hx
    refine tg_n i3 ?_
    walk_at "mo"
    have lp : 0 < ls.length := by omega
    refine draw_go hT2 (by rw [List.length_map]; omega) (by rw [List.length_map]; omega) fun n T3 n0 n1 hT3 => ?_
    rw [List.length_map] at n1
    walk_at "mo"
    have nl : n.toNat < ls.length := by omega
    refine popa_ (y := .str ls[n.toNat]) ⟨n0, by omega⟩ (by rw [List.getElem?_map, List.getElem?_eq_getElem nl]; rfl) ?_
    have yl := h1 _ (List.getElem_mem nl)
    walk_at "mo"
    refine v_addS (by omega) ?_
    walk_at "mo"
    refine pickS (ys := ["", "-", "/", " ", ". ", "y", ":", "of"]) hT3 (by decide) (by decide) fun y T4 hy hT4 => ?_
    have y2 : y.length ≤ 2 := (show ∀ y ∈ (["", "-", "/", " ", ". ", "y", ":", "of"] : List Str), y.length ≤ 2 by decide +kernel) y hy
    walk_at "mo"
    refine v_addS (by rw [adl]; omega) ?_
    walk_at "mo"
    exact ⟨T4, ls.eraseIdx n.toNat, _, _, by rw [er_map], rfl, hT4, by rw [List.length_eraseIdx_of_lt nl]; omega, fun z hz => h1 z (List.mem_of_mem_eraseIdx hz), by rw [adl, adl]; omega⟩
  · obtain ⟨T2, ls, s, x3, rfl, i3, hT2, hl, h1, hs⟩ := hI
    rw [rngD_len] at hs
    walk_at "mo"
    refine draw_go hT2 (by omega) (by omega) fun n T3 n0 n1 hT3 => ?_
    walk_at "mo"
    refine if_c (fun h => ?_) (fun h => ?_)
    · walk_at "mo"
      refine v_mulS (by rw [show ("x" : Str).length = 1 by decide +kernel]; omega) ?_
      walk_at "mo"
      refine pickS (ys := ["Y", "M", "H", "Z", "7", mulS "x" 41, "", "?"]) hT3 (by decide) (by decide) fun y T4 hy hT4 => ?_
      have y41 : y.length ≤ 41 := (show ∀ y ∈ (["Y", "M", "H", "Z", "7", mulS "x" 41, "", "?"] : List Str), y.length ≤ 41 by decide +kernel) y hy
      walk_at "mo"
      refine v_addS (by omega) ?_
      walk_at "mo"
      refine draw_go hT4 (by omega) (by omega) fun n2 T5 m0 m1 hT5 => ?_
      walk_at "mo"
      refine v_slS (by rw [adl]; omega) ?_
      walk_at "mo"
      refine q _ _ ?_ hT5
      have := cut_len (s ++ y) (some n2) none
      rw [adl] at this
      omega
    · walk_at "mo"
      exact q _ _ (by omega) hT3

end K33

set_option Elab.async false
set_option linter.all false
set_option maxRecDepth 100000
namespace K33
open PySem hiding Env ret
open PySem.Spec PyProof.Rows L2 Mi
/-! the walk over mirrors -/
local macro_rules | `(tactic| walk_at "lk") => `(tactic| first | exact Mi.lk0 | exact Mi.lk1 | exact Mi.lk2 | exact Mi.lk3 | exact Mi.lk4 | exact Mi.lk5 | exact Mi.lk6 | exact Mi.lk7 | exact Mi.lk8 | exact Mi.lk9 | exact Mi.lk10 | exact Mi.lk11 | exact Mi.lk12 | exact Mi.lk13 | exact Mi.lk14 | exact Mi.lk15 | exact Mi.lk16 | exact Mi.lk17 | exact Mi.lk18 | exact Mi.lk19 | exact Mi.lk20 | exact Mi.lk21 | exact Mi.lk22 | exact Mi.lk23 | exact Mi.lk24 | exact Mi.lk25 | exact Mi.lk26 | exact Mi.lk27 | exact Mi.lk28 | exact Mi.lk29 | exact Mi.lk30 | exact Mi.lk31 | exact Mi.lk32 | exact Mi.lk33 | exact Mi.lk34 | exact Mi.lk35 | exact Mi.lk36 | exact Mi.lk37 | exact Mi.lk38 | exact Mi.lk39)
local macro_rules | `(tactic| walk_at "st") => `(tactic| first | with_reducible refine Mi.st0 ?_ | with_reducible refine Mi.st1 ?_ | with_reducible refine Mi.st2 ?_ | with_reducible refine Mi.st3 ?_ | with_reducible refine Mi.st4 ?_ | with_reducible refine Mi.st5 ?_ | with_reducible refine Mi.st6 ?_ | with_reducible refine Mi.st7 ?_ | with_reducible refine Mi.st8 ?_ | with_reducible refine Mi.st9 ?_ | with_reducible refine Mi.st10 ?_ | with_reducible refine Mi.st11 ?_ | with_reducible refine Mi.st12 ?_ | with_reducible refine Mi.st13 ?_ | with_reducible refine Mi.st14 ?_ | with_reducible refine Mi.st15 ?_ | with_reducible refine Mi.st16 ?_ | with_reducible refine Mi.st17 ?_ | with_reducible refine Mi.st18 ?_ | with_reducible refine Mi.st19 ?_ | with_reducible refine Mi.st20 ?_ | with_reducible refine Mi.st21 ?_ | with_reducible refine Mi.st22 ?_ | with_reducible refine Mi.st23 ?_ | with_reducible refine Mi.st24 ?_ | with_reducible refine Mi.st25 ?_ | with_reducible refine Mi.st26 ?_ | with_reducible refine Mi.st27 ?_ | with_reducible refine Mi.st28 ?_ | with_reducible refine Mi.st29 ?_ | with_reducible refine Mi.st30 ?_ | with_reducible refine Mi.st31 ?_ | with_reducible refine Mi.st32 ?_ | with_reducible refine Mi.st33 ?_ | with_reducible refine Mi.st34 ?_ | with_reducible refine Mi.st35 ?_ | with_reducible refine Mi.st36 ?_ | with_reducible refine Mi.st37 ?_ | with_reducible refine Mi.st38 ?_ | with_reducible refine Mi.st39 ?_)
local macro_rules | `(tactic| walk_at "at") => `(tactic| first | with_reducible assumption | exact Rd.at0 | exact Rd.at1 | exact Rd.at2 | exact Rd.at3 | exact Rd.at4)
local macro_rules | `(tactic| walk_at "side") => `(tactic| first | with_reducible assumption | omega | (constructor <;> omega) | (refine Or.inl ⟨?_, ?_⟩ <;> omega) | (refine Or.inr ⟨?_, ?_⟩ <;> omega) | (simp only [List.length_cons, List.length_nil, List.length_append, List.length_map]; omega) | ((refine ⟨⟨?_, ?_⟩, ?_, ?_⟩) <;> omega))
local macro_rules | `(tactic| walk_at "fn") => `(tactic| fail)
local macro_rules | `(tactic| walk_at "w1") => `(tactic| first
  | ((with_reducible show Mi.SatS _ _ _ _ _ _); (first | with_reducible refine Mi.w_seq ?_ | with_reducible refine Mi.w_retIf ?_ | with_reducible refine Mi.w_retX ?_ | with_reducible refine Mi.w_asgX ?_ | with_reducible refine Mi.w_dropX ?_ | with_reducible refine Mi.w_raise ?_ | with_reducible refine Mi.w_asg ?_ | with_reducible refine Mi.w_ifS ?_ | with_reducible refine Mi.w_drop ?_ | with_reducible refine Mi.w_ret ?_ | with_reducible refine Mi.w_next ?_ | with_reducible refine Mi.w_for ?_ | with_reducible refine Mi.w_retN ?_ | with_reducible refine Mi.w_brk ?_ | with_reducible refine Mi.w_cnt ?_ | with_reducible refine Mi.w_while ?_ | with_reducible refine Mi.w_setO ?_))
  | ((with_reducible show Mi.Sat _ _); (first | ((with_reducible apply Mi.w_val); (walk_at "lk")) | with_reducible refine Mi.w_c ?_ | with_reducible refine Mi.w_op ?_ | with_reducible refine Mi.w_call ?_ | with_reducible refine Mi.w_callI ?_ | with_reducible refine Mi.w_tup ?_ | with_reducible refine Mi.w_getV ?_ | with_reducible refine Mi.w_ixV ?_ | ((with_reducible apply Mi.w_pkv); (walk_at "lk")) | with_reducible refine Mi.w_peek ?_ | with_reducible refine Mi.w_cb ?_ | with_reducible refine Mi.w_lst ?_ | with_reducible refine Mi.w_un ?_ | ((with_reducible apply Mi.w_ownA); (walk_at "lk"); (exact rfl)) | with_reducible refine Mi.w_andV ?_ | with_reducible refine Mi.w_orV ?_ | with_reducible refine Mi.w_notV ?_ | with_reducible refine Mi.w_if ?_ | with_reducible refine Mi.w_chain ?_ | with_reducible refine Mi.w_sl ?_ | with_reducible refine Mi.w_get ?_ | with_reducible refine Mi.w_d0 ?_ | with_reducible refine Mi.w_dict ?_ | with_reducible refine Mi.w_tupS ?_ | with_reducible refine Mi.w_app ?_ | with_reducible refine Mi.w_lcw ?_ | with_reducible refine Mi.w_js1 ?_ | with_reducible refine Mi.w_js0 ?_ | ((with_reducible apply Mi.w_lenO); (walk_at "lk")) | ((with_reducible apply Mi.w_lenv); (walk_at "lk"))))
  | ((with_reducible show Mi.SatT _ _); (first | with_reducible refine Mi.w_B ?_ | with_reducible refine Mi.w_andT ?_ | with_reducible refine Mi.w_orT ?_ | with_reducible refine Mi.w_notT ?_ | with_reducible refine Mi.w_yes ?_))
  | ((with_reducible show Mi.SatA _ _); (first | with_reducible refine Mi.w_nil ?_ | with_reducible refine Mi.w_cons ?_ | with_reducible refine Mi.w_snil ?_ | with_reducible refine Mi.w_sone ?_ | with_reducible refine Mi.w_sstar ?_ | with_reducible refine Mi.w_r1 ?_ | with_reducible refine Mi.w_r2 ?_ | with_reducible refine Mi.w_itL1 ?_ | with_reducible refine Mi.w_itT1 ?_))
  | ((with_reducible show Mi.VAL _ _); (first | with_reducible apply Mi.v_add | with_reducible apply Mi.v_sub | with_reducible apply Mi.v_eqI | with_reducible apply Mi.v_lt | with_reducible apply Mi.v_le | with_reducible apply Mi.v_gt | with_reducible apply Mi.v_ge | with_reducible apply Mi.v_neI | ((with_reducible apply Mi.v_ixL); (walk_at "at")) | ((with_reducible apply Mi.v_ixT); (walk_at "at")) | ((with_reducible apply Mi.v_mul); (walk_at "side")) | ((with_reducible apply Mi.v_div); (walk_at "side")) | ((with_reducible apply Mi.v_mod); (walk_at "side")) | with_reducible apply Mi.v_neg | with_reducible apply Mi.v_eqS | with_reducible apply Mi.v_eqB | with_reducible apply Mi.v_neS | with_reducible apply Mi.v_neB | with_reducible apply Mi.v_eqNI | with_reducible apply Mi.v_neNI | with_reducible apply Mi.v_isN | with_reducible apply Mi.v_notN | with_reducible apply Mi.v_lenL | with_reducible apply Mi.v_lenT | with_reducible apply Mi.v_abs | with_reducible apply Mi.v_int | with_reducible apply Mi.v_intB | with_reducible apply Mi.v_min2 | with_reducible apply Mi.v_max2 | with_reducible apply Mi.v_tupL | with_reducible apply Mi.v_tupT | with_reducible apply Mi.v_lstL | with_reducible apply Mi.v_lstT | with_reducible apply Mi.v_slT | with_reducible apply Mi.v_slL | ((with_reducible apply Mi.v_pow); (decide)) | ((with_reducible apply Mi.v_catL); (walk_at "side")) | ((with_reducible apply Mi.v_catT); (walk_at "side")) | ((with_reducible apply Mi.v_divmod); (walk_at "side")) | ((with_reducible apply Mi.v_fmt2); (walk_at "side")) | walk_at "fn"))
  | ((with_reducible show Mi.IFV _ _ _); (first | with_reducible refine Mi.if_t ?_ | with_reducible refine Mi.if_f ?_ | with_reducible refine Mi.if_nt ?_ | with_reducible refine Mi.if_nf ?_ | with_reducible refine Mi.if_n1 ?_ | with_reducible refine Mi.if_n2 ?_ | with_reducible refine Mi.if_n3 ?_ | with_reducible refine Mi.if_n4 ?_ | with_reducible refine Mi.if_n5 ?_ | with_reducible refine Mi.if_n6 ?_))
  | ((with_reducible show Mi.SETS _ _); (first | walk_at "st" | (with_reducible refine Mi.put_own (by walk_at "lk") ?_) | (with_reducible refine Mi.put_io (by walk_at "lk") ?_)))
  | ((with_reducible show Mi.TG _ _); (first | ((with_reducible apply Mi.tg_n); (exact rfl)) | ((with_reducible apply Mi.tg_t); (exact rfl))))
  | ((with_reducible show Mi.TGS _ _); (first | with_reducible refine Mi.tgs_cons ?_ | with_reducible refine Mi.tgs_nil ?_))
  | ((with_reducible show Mi.LCB _ _ _); (with_reducible apply Mi.lcb); (exact rfl))
  | ((with_reducible show Mi.WIPE _ _); (first | with_reducible refine Mi.wp1 ?_ | with_reducible refine Mi.wp2 ?_ | ((with_reducible refine Mi.rs1 ?_ ?_); (walk_at "lk")) | ((with_reducible refine Mi.rs1v (d := ?_) ?_ ?_); (walk_at "lk")) | ((with_reducible refine Mi.rs2 ?_ ?_ ?_); (walk_at "lk"); (walk_at "lk"))))
  | ((with_reducible show Mi.SETO _ _ _ _); (with_reducible apply Mi.seto); (exact rfl))
  | with_reducible refine Mi.isl ?_
  | ((with_reducible show Mi.APP _ _ _ _ _); (with_reducible apply Mi.app_); (walk_at "side"))
  | ((with_reducible show Mi.LEQ _ _); (with_reducible apply Mi.leq); (walk_at "side"))
  | with_reducible refine Mi.isls ?_
  | with_reducible refine Mi.ists ?_
  | ((with_reducible show Mi.R1 _ _); (with_reducible apply Mi.r1_); (walk_at "side"))
  | ((with_reducible show Mi.R2 _ _); (with_reducible apply Mi.r2_); (walk_at "side"))
  | with_reducible refine Mi.prt ?_
  | with_reducible refine Mi.w_part ?_
  | with_reducible refine Mi.bl_ ?_
  | ((with_reducible show Mi.MU _ _); (with_reducible apply Mi.mu_own); (walk_at "lk"))
  | ((with_reducible show Mi.MU _ _); (with_reducible apply Mi.mu_io); (walk_at "lk"))
  | with_reducible refine Mi.dl_cons ?_
  | with_reducible refine Mi.dl_nil ?_
  | with_reducible refine Mi.w_none ?_
  | with_reducible refine Mi.io_of ?_
  | with_reducible refine Mi.w_itT ?_
  | with_reducible refine Mi.w_itL ?_
  | walk_at "fn")
local macro_rules | `(tactic| walk_at "w") => `(tactic| repeat (walk_at "w1"))
local macro_rules | `(tactic| walk_at "wd") => `(tactic| first
  | ((with_reducible refine Mi.if_p ?_ ?_); (first | with_reducible assumption | exact rfl | decide | omega))
  | ((with_reducible refine Mi.if_m ?_ ?_); (first | with_reducible assumption | exact rfl | decide | omega))
  | ((with_reducible refine Mi.if_np ?_ ?_); (first | with_reducible assumption | exact rfl | decide | omega))
  | ((with_reducible refine Mi.if_nm ?_ ?_); (first | with_reducible assumption | exact rfl | decide | omega)))
local macro_rules | `(tactic| walk_at "mo") => `(tactic| (walk_at "w"; (repeat (walk_at "wd"; walk_at "w"))))
local macro_rules | `(tactic| walk_at "env") => `(tactic| simp only [envP, envI, List.map_cons, List.map_nil, List.length_cons, List.length_nil, List.replicate, List.cons_append, List.nil_append, Nat.reduceAdd, Nat.reduceSub])

local macro_rules | `(tactic| walk_at "fn") => `(tactic| first | ((with_reducible show Mi.VAL _ _); (with_reducible apply Mi.t_left)) | ((with_reducible show Mi.Sat _ _); (with_reducible refine Mi.w_isiE ?_)) | ((with_reducible show Mi.Sat _ _); (with_reducible refine Mi.w_pkR ?_)) | ((with_reducible show Mi.Sat _ _); (with_reducible refine Mi.w_ext ?_)) | ((with_reducible show Mi.EXT _ _ _ _ _); (with_reducible apply Mi.ext_); (walk_at "side")) | ((with_reducible show Mi.SatA _ _); (with_reducible refine Mi.w_r3 ?_)) | ((with_reducible show Mi.Sat _ _); (first | with_reducible refine Mi.w_lr3 ?_ | with_reducible refine Mi.w_pop ?_ | with_reducible refine Mi.w_sj ?_ | with_reducible refine Mi.w_popAt ?_ | with_reducible refine Mi.w_lstS ?_ | with_reducible refine Mi.w_scj ?_ | with_reducible refine Mi.w_lc2 ?_ | with_reducible refine Mi.w_fld ?_ | with_reducible refine Mi.w_meth ?_ | with_reducible refine Mi.w_kg ?_ | with_reducible refine Mi.w_k1 ?_ | with_reducible refine Mi.w_kgI ?_ | with_reducible refine Mi.w_neV ?_ | with_reducible refine Mi.w_dinV ?_ | ((with_reducible apply Mi.w_lstV); (walk_at "lk")) | ((with_reducible apply Mi.w_isiV); (walk_at "lk")) | with_reducible refine Mi.w_m1 ?_ | ((with_reducible refine Mi.w_lcO ?_ ?_); (decide)))) | ((with_reducible show Mi.TG _ _); (with_reducible refine Mi.tg_guard ?_ ?_); (first | exact Mi.mu_own' (by walk_at "lk") | exact Mi.mu_io' (by walk_at "lk"))) | (with_reducible refine Mi.iss ?_) | (with_reducible refine Mi.io_of1 ?_) | ((with_reducible show Mi.SatS _ _ _ _ _ _); (first | with_reducible refine Mi.w_setF ?_ | with_reducible refine Mi.w_new ?_)) | ((with_reducible show Mi.SatA _ _); (first | with_reducible refine Mi.w_enum ?_ | with_reducible refine Mi.w_itS1 ?_ | with_reducible refine Mi.w_enumS ?_ | with_reducible refine Mi.w_zipS ?_)) | ((with_reducible show Mi.ENS _ _); (with_reducible apply Mi.ens_); (walk_at "side")) | ((with_reducible show Mi.ZPS _ _); (with_reducible refine Mi.zps_ ?_)) | ((with_reducible show Mi.KG _ _ _ _); (with_reducible refine Mi.kg_ ?_)) | ((with_reducible show Mi.KGI _ _ _ _); (with_reducible refine Mi.kgi_ ?_)) | ((with_reducible show Mi.VAL _ _); (first | with_reducible apply Mi.v_kin | with_reducible apply Mi.v_count)) | ((with_reducible show Mi.DIK _ _ _ _); (with_reducible refine Mi.dik_ ?_)) | ((with_reducible show Mi.VAL _ _); (with_reducible apply Mi.v_gne)) | ((with_reducible show Mi.TG _ _); (with_reducible apply Mi.tg_l); (exact rfl)) | ((with_reducible show Mi.EN _ _); (with_reducible refine Mi.en_ ?_)) | (with_reducible refine Mi.isst ?_) | ((with_reducible show Mi.VAL _ _); (first | with_reducible apply Mi.v_leS | with_reducible apply Mi.v_inS | with_reducible apply Mi.v_ninS | with_reducible apply Mi.v_start | with_reducible apply Mi.v_ends | with_reducible apply Mi.v_strS | ((with_reducible apply Mi.v_lenS); (walk_at "side")) | ((with_reducible apply Mi.v_ixS); (walk_at "side"); (walk_at "at")) | ((with_reducible apply Mi.v_repL); (walk_at "side")))) | ((with_reducible show Mi.SJ _ _); (with_reducible apply Mi.sj_); (walk_at "side")))
open TL
theorem pn_out (c : Cal) (T cs : List Nat) : Pn 3 (OUT c T cs) := by
  have h : ∀ r : Int ⊕ PyData, r = RES c T cs → Pn 3 (match r with | .inl k => PyData.int k | .inr d => d) := by
    intro r hr
    cases r with
    | inl k => exact pn_int
    | inr d =>
      unfold RES at hr
      split at hr
      · cases hr
      · split at hr
        · cases hr
        · split at hr
          · injection hr with hr
            subst hr
            exact pn_tup (pna_cons (pn_tup (pna_cons pn_int (pna_cons pn_int (pna_cons pn_int pna_nil)))) (pna_cons pn_int pna_nil))
          · cases hr
  exact h _ rfl
theorem MO_28 {c : Cal} (hc : c = .greg ∨ c = .jul) (y : Int) : (MO c y).length = 12 ∧ ∀ n ∈ MO c y, 28 ≤ n := by
  have e : MO c y = LP ∨ MO c y = MN := by
    rcases hc with rfl | rfl
    · show (if leapG y = true then LP else MN) = LP ∨ (if leapG y = true then LP else MN) = MN
      split <;> simp
    · show (if leapJ y = true then LP else MN) = LP ∨ (if leapJ y = true then LP else MN) = MN
      split <;> simp
  rcases e with e | e <;> rw [e] <;> exact ⟨by decide, by decide⟩
theorem isP_len {cs : List Nat} (h : isP cs = true) : cs.length ≤ 40 := by
  unfold isP at h
  simp only [Bool.and_eq_true, decide_eq_true_eq] at h
  exact h.1
def kept (cs : List Nat) (mi : Nat) : Int := (if 72 ∈ cs then ((60 * (mi / 60) : Nat) : Int) else 0) + (if 78 ∈ cs then ((mi % 60 : Nat) : Int) else 0)
theorem out_wr {c : Cal} (hc : c = .greg ∨ c = .jul) {cs : List Nat} (hp : isP cs = true) {y m d mi : Nat} (hy : y < 10000) (hm : 1 ≤ m ∧ m ≤ 12) (hd : 1 ≤ d ∧ d ≤ 28) (hi : mi < 1440) : OUT c (Wr (vl y m d mi) cs) cs = .tuple [dtD (vl y m d mi), .int (kept cs mi)] := by
  have hv := vl_ok (y := y) (m := m) (d := d) (mi := mi) hy (by omega) (by omega) hi
  have h := RD_wr (v := vl y m d mi) cs [] g0 fun c _ h => hv.len h
  have h : RD (Wr (vl y m d mi) cs) g0 0 cs = .inr ((Wr (vl y m d mi) cs).length, updAll (vl y m d mi) g0 cs) := h
  obtain ⟨m1, m2, m3⟩ := isP_mem hp
  have a1 : G (updAll (vl y m d mi) g0 cs) 89 = (y : Int) := by unfold G; rw [updAll_at, if_pos ⟨m1, rfl⟩]; rfl
  have a2 : G (updAll (vl y m d mi) g0 cs) 77 = (m : Int) := by unfold G; rw [updAll_at, if_pos ⟨m2, rfl⟩]; rfl
  have a3 : G (updAll (vl y m d mi) g0 cs) 68 = (d : Int) := by unfold G; rw [updAll_at, if_pos ⟨m3, rfl⟩]; rfl
  have a4 : G (updAll (vl y m d mi) g0 cs) 72 = if 72 ∈ cs then ((mi / 60 : Nat) : Int) else 0 := by
    unfold G
    rw [updAll_at]
    by_cases z : 72 ∈ cs
    · rw [if_pos ⟨z, rfl⟩, if_pos z]; rfl
    · rw [if_neg (fun w => z w.1), if_neg z]; rfl
  have a5 : G (updAll (vl y m d mi) g0 cs) 78 = if 78 ∈ cs then ((mi % 60 : Nat) : Int) else 0 := by
    unfold G
    rw [updAll_at]
    by_cases z : 78 ∈ cs
    · rw [if_pos ⟨z, rfl⟩, if_pos z]; rfl
    · rw [if_neg (fun w => z w.1), if_neg z]; rfl
  obtain ⟨l12, l28⟩ := MO_28 hc y
  have fl : FLAW c (y : Int) (m : Int) (d : Int) = "" := by
    refine flaw_ok ⟨by omega, by omega⟩ ⟨by omega, by omega⟩ ⟨by omega, ?_⟩
    have := l28 _ (getD_mem2 (l := MO c y) (i := ((m : Int) - 1).toNat) (d := 0) (by omega))
    omega
  have r : RES c (Wr (vl y m d mi) cs) cs = .inr (.tuple [dtD (vl y m d mi), .int (kept cs mi)]) := by
    unfold RES
    rw [h]
    show (if (Wr (vl y m d mi) cs).length < (Wr (vl y m d mi) cs).length then _ else if _ then _ else _ : Int ⊕ PyData) = _
    rw [if_neg (Nat.lt_irrefl _), a1, a2, a3, a4, a5, if_pos ⟨fl, by split <;> omega, by split <;> omega⟩]
    have e : 60 * (if 72 ∈ cs then ((mi / 60 : Nat) : Int) else 0) + (if 78 ∈ cs then ((mi % 60 : Nat) : Int) else 0) = kept cs mi := by
      unfold kept
      split <;> omega
    rw [e]
    rfl
  exact out_r r
noncomputable abbrev tailS : Mi.MS := (mSeq (mIfS (mB (mOp fNeD (mCall (runP 4 m__law_told) [(mVar 2), (mVar 3), (mVar 7)]) (mTup [(mVar 5), (mVar 8)]))) (mRet (mC (.bool false))) mNext)
  (mSeq (mFor (itR1 [(mOp fAdd (mC (.int (1))) (mCallI (runI 4 m__law_draw) 1 [(mC (.int (2)))]))]) (gN 9) (mSeq (mSet 10 (mCallI (runI 4 m__law_draw) 1 [(mCB cbLenS [(mVar 7)])]))
  (mSeq (mSet 7 (mOp fAddS (mOp fAddS (mSl fSlS (mVar 7) mNoPart (mPart (mVar 10))) (mCallI (runI 2 m__law_pick) 1 [(mLst [(mC (.str "")), (mC (.str "9")), (mC (.str "3")), (mC (.str "-")), (mC (.str "x")), (mC (.str "00"))])])) (mSl fSlS (mVar 7) (mPart (mOp fAdd (mVar 10) (mCallI (runI 4 m__law_draw) 1 [(mC (.int (2)))]))) mNoPart)))
  (mIfS (mB (mOp fEq (mCB cbLenS [(mVar 7)]) (mC (.int (0))))) (mSet 7 (mC (.str "5"))) mNext))))
  (mRet (mOp fEqD (mCall (runP 4 m__law_told) [(mVar 2), (mVar 3), (mVar 7)]) (mCall (runP 10 m__law_read) [(mVar 2), (mVar 3), (mVar 7)])))))
@[irreducible] noncomputable def tailX : Mi.MS := tailS
theorem law_eq : m_law = (mSeq (mSetO 1 (mCall (runP 2 m__law_start) [(mVar 0)]))
  (mSeq (mSet 2 (mCallI (runI 2 m__law_pick) 1 [(mLst [(mC (.str "gregorian")), (mC (.str "julian"))])]))
  (mSeq (mSet 3 (mCallI (runI 4 m__law_pattern) 1 []))
  (mSeq (mSet 4 (mCall (runP 3 m__law_is_pattern) [(mVar 3)]))
  (mSeq (mIfS (mNotT (mB (mCall (runP 2 m__law_is) [(mCall (runP 2 m_is_pattern) [(mVar 3)]), (mVar 4)]))) (mRet (mC (.bool false))) mNext)
  (mSeq (mIfS (mNotT (mB (mVar 4))) (mRet (mC (.bool true))) mNext)
  (mSeq (mSet 5 (mTup [(mCallI (runI 4 m__law_draw) 1 [(mC (.int (10000)))]), (mOp fAdd (mC (.int (1))) (mCallI (runI 4 m__law_draw) 1 [(mC (.int (12)))])), (mOp fAdd (mC (.int (1))) (mCallI (runI 4 m__law_draw) 1 [(mC (.int (28)))]))]))
  (mSeq (mSet 6 (mCallI (runI 4 m__law_draw) 1 [(mC (.int (1440)))]))
  (mSeq (mSet 7 (mCall (runP 8 m_write) [(mVar 3), (mVar 5), (mVar 6)]))
  (mSeq (mIfS (mB (mOp fNe (mVar 7) (mCall (runP 7 m__law_written) [(mVar 3), (mVar 5), (mVar 6)]))) (mRet (mC (.bool false))) mNext)
  (mSeq (mSet 8 (mOp fAdd (mIf (mB (mOp fInS (mC (.str "H")) (mVar 3))) (mOp fMul (mC (.int (60))) (mOp fDiv (mVar 6) (mC (.int (60))))) (mC (.int (0)))) (mIf (mB (mOp fInS (mC (.str "N")) (mVar 3))) (mOp fMod (mCB cbInt [(mVar 6)]) (mC (.int (60)))) (mC (.int (0))))))
  tailX))))))))))) := by
  unfold m_law tailX tailS
  rfl
theorem cut_two (x : Str) (a b : Int) (h0 : 0 ≤ a) (h1 : a ≤ b) (ha : a ≤ x.length) : (cutS x none (some a)).length + (cutS x (some b) none).length ≤ x.length := by
  rw [len_tl, len_tl (cutS x (some b) none)]
  have e1 : tl (cutS x none (some a)) = ((tl x).drop (HT.sIx x.length 0 none)).take (HT.sIx x.length x.length (some a) - HT.sIx x.length 0 none) := List.toList_toArray ..
  have e2 : tl (cutS x (some b) none) = ((tl x).drop (HT.sIx x.length 0 (some b))).take (HT.sIx x.length x.length none - HT.sIx x.length 0 (some b)) := List.toList_toArray ..
  obtain ⟨a', rfl⟩ : ∃ n : Nat, a = n := ⟨a.toNat, by omega⟩
  obtain ⟨b', rfl⟩ : ∃ n : Nat, b = n := ⟨b.toNat, by omega⟩
  rw [e1, e2, HT.sIx_none, HT.sIx_none, HT.sIx_nat, HT.sIx_nat, List.length_take, List.length_take, List.length_drop, List.length_drop, len_tl x]
  omega
set_option maxHeartbeats 16000000 in
theorem tail_go {c : Cal} {P : Str} {v : Nat → Nat} {mi kp : Int} {s0 T6 : PyData} {Q : PyData → Prop} {N B C : Mi.Env → Prop} {X : Str → PyData → Mi.Env → Prop} (hc : COk c) (hp : isP (tl P) = true) (p40 : P.length ≤ 40) (hT6 : TapeOk T6) (wl : 1 ≤ (WS v (tl P)).length ∧ (WS v (tl P)).length ≤ 160) (ow : OUT c (Wr v (tl P)) (tl P) = .tuple [dtD v, .int kp]) (q : Q (.bool true)) :
    SatS (tailS [.val s0, .own T6, .val (calD c), .val (.str P), .val (.bool true), .val (dtD v), .val (.int mi), .val (.str (WS v (tl P))), .val (.int kp), .no, .no]) N (fun d _ => Q d) B C X := by
  unfold tailS
  walk_at "mo"
  refine told_go hc hp p40 (by omega) ?_
  rw [show tl (WS v (tl P)) = Wr v (tl P) from rfl, ow]
  walk_at "mo"
  refine v_neDr (n := 3) (pn_tup (pna_cons (pn_tup (pna_cons pn_int (pna_cons pn_int (pna_cons pn_int pna_nil)))) (pna_cons pn_int pna_nil))) (by decide) ?_
  walk_at "mo"
  refine draw_go hT6 (by omega) (by omega) fun n T7 n0 n1 hT7 => ?_
  walk_at "mo"
  have h0 : ∃ (T : PyData) (s : Str) (x9 x10 : Sl), ([.val s0, .own T7, .val (calD c), .val (.str P), .val (.bool true), .val (dtD v), .val (.int mi), .val (.str (WS v (tl P))), .val (.int kp), .no, .no] : Mi.Env) = [.val s0, .own T, .val (calD c), .val (.str P), .val (.bool true), .val (dtD v), .val (.int mi), .val (.str s), .val (.int kp), x9, x10] ∧ notIo [x9] 0 = true ∧ notIo [x10] 0 = true ∧ TapeOk T ∧ 1 ≤ s.length ∧ s.length ≤ 160 + 10 * 0 := ⟨T7, _, .no, .no, rfl, rfl, rfl, hT7, wl.1, by omega⟩
  with_reducible refine for_inv (fun i ρ => ∃ (T : PyData) (s : Str) (x9 x10 : Sl), ρ = [.val s0, .own T, .val (calD c), .val (.str P), .val (.bool true), .val (dtD v), .val (.int mi), .val (.str s), .val (.int kp), x9, x10] ∧ notIo [x9] 0 = true ∧ notIo [x10] 0 = true ∧ TapeOk T ∧ 1 ≤ s.length ∧ s.length ≤ 160 + 10 * i) h0 (fun i x ρ hx hI => ?_) (fun ρ hI => ?_)
  · obtain ⟨T, s, x9, x10, rfl, i9, i10, hT, s1, s2⟩ := hI
    obtain ⟨hi, rfl⟩ := rngD_get hx
    refine tg_n i9 ?_
    walk_at "mo"
    refine draw_go hT (by omega) (by omega) fun a T8 a0 a1 hT8 => ?_
    walk_at "mo"
    refine tg_n i10 ?_
    walk_at "mo"
    refine v_slS (z := s) (by omega) ?_
    have c1 := cut_len s none (some a)
    walk_at "mo"
    refine pickS (ys := ["", "9", "3", "-", "x", "00"]) hT8 (by decide) (by decide) fun y T9 hy hT9 => ?_
    have y2 : y.length ≤ 2 := (show ∀ y ∈ (["", "9", "3", "-", "x", "00"] : List Str), y.length ≤ 2 by decide +kernel) y hy
    walk_at "mo"
    refine v_addS (by omega) ?_
    walk_at "mo"
    refine draw_go hT9 (by omega) (by omega) fun b T10 b0 b1 hT10 => ?_
    walk_at "mo"
    refine v_slS (z := s) (by omega) ?_
    have c2 := cut_len s (some (a + b)) none
    have c3 := cut_two s a (a + b) a0 (by omega) (by omega)
    walk_at "mo"
    refine v_addS (by rw [adl]; omega) ?_
    walk_at "mo"
    have tl3 : (cutS s none (some a) ++ y ++ cutS s (some (a + b)) none).length ≤ s.length + 2 := by rw [adl, adl]; omega
    generalize cutS s none (some a) ++ y ++ cutS s (some (a + b)) none = s3 at tl3 ⊢
    by_cases z : s3.length = 0
    · walk_at "mo"
      exact ⟨_, _, _, _, rfl, rfl, rfl, hT10, by decide +kernel, by rw [show ("5" : Str).length = 1 by decide +kernel]; omega⟩
    · walk_at "mo"
      exact ⟨_, _, _, _, rfl, rfl, rfl, hT10, by omega, by omega⟩
  · obtain ⟨T, s, x9, x10, rfl, i9, i10, hT, s1, s2⟩ := hI
    rw [rngD_len] at s2
    walk_at "mo"
    refine told_go hc hp p40 (by omega) ?_
    walk_at "mo"
    refine lread_go hc hp p40 (by omega) ?_
    walk_at "mo"
    refine v_eqDr (pn_out _ _ _) (by decide) ?_
    exact q
theorem inH (w : Str) (c : Nat) (P : Str) (h : w = ch c) : inS w P = decide (c ∈ tl P) := by rw [h]; exact in_word rfl c
set_option maxHeartbeats 16000000 in
theorem law_true (ns : List Int) (hl : ns.length ≤ 63) : runP 11 m_law [scr ns] = .ok (.bool true) := by
  refine SatP.eq (run_P ?_)
  walk_at "env"
  rw [law_eq]
  walk_at "mo"
  refine start_go hl fun T0 hT0 => ?_
  walk_at "mo"
  refine pickS (ys := ["gregorian", "julian"]) hT0 (by decide) (by decide) fun cy T1 hcy hT1 => ?_
  obtain ⟨c, hc, hgj, ec⟩ : ∃ c : Cal, COk c ∧ (c = .greg ∨ c = .jul) ∧ PyData.str cy = calD c := by
    rcases List.mem_cons.mp hcy with rfl | hcy
    · exact ⟨.greg, trivial, .inl rfl, rfl⟩
    · rw [List.mem_singleton] at hcy
      subst hcy
      exact ⟨.jul, trivial, .inr rfl, rfl⟩
  rw [ec]
  walk_at "mo"
  refine pat_go hT1 fun P T2 lP hT2 => ?_
  walk_at "mo"
  refine lisp_go (by omega) ?_
  walk_at "mo"
  refine isp_go (by omega) ?_
  walk_at "mo"
  refine is_go ?_
  rw [decide_eq_true (rfl : isP (tl P) = isP (tl P))]
  cases hp : isP (tl P) with
  | false =>
    walk_at "mo"
    rfl
  | true =>
    walk_at "mo"
    refine draw_go hT2 (by omega) (by omega) fun y0 T3 y1 y2 hT3 => ?_
    walk_at "mo"
    refine draw_go hT3 (by omega) (by omega) fun m0 T4 m1 m2 hT4 => ?_
    walk_at "mo"
    refine draw_go hT4 (by omega) (by omega) fun d0 T5 d1 d2 hT5 => ?_
    walk_at "mo"
    refine draw_go hT5 (by omega) (by omega) fun mi0 T6 i1 i2 hT6 => ?_
    walk_at "mo"
    obtain ⟨y, rfl⟩ : ∃ y : Nat, y0 = y := ⟨y0.toNat, by omega⟩
    obtain ⟨m, rfl⟩ : ∃ m : Nat, m0 = m := ⟨m0.toNat, by omega⟩
    obtain ⟨d, rfl⟩ : ∃ d : Nat, d0 = d := ⟨d0.toNat, by omega⟩
    obtain ⟨mi, rfl⟩ : ∃ mi : Nat, mi0 = mi := ⟨mi0.toNat, by omega⟩
    rw [show (PyData.tuple [PyData.int (y : Int), PyData.int (1 + (m : Int)), PyData.int (1 + (d : Int))]) = dtD (vl y (1 + m) (1 + d) mi) from by
      show _ = PyData.tuple [.int ((y : Nat) : Int), .int ((1 + m : Nat) : Int), .int ((1 + d : Nat) : Int)]
      rw [Int.natCast_add, Int.natCast_add]; rfl]
    have ow := out_wr hgj hp (y := y) (m := 1 + m) (d := 1 + d) (mi := mi) (by omega) ⟨by omega, by omega⟩ ⟨by omega, by omega⟩ (by omega)
    have hv := vl_ok (y := y) (m := 1 + m) (d := 1 + d) (mi := mi) (by omega) (by omega) (by omega) (by omega)
    have e72 : ((mi : Nat) : Int) / 60 = (vl y (1 + m) (1 + d) mi 72 : Nat) := by show _ = ((mi / 60 : Nat) : Int); omega
    have e78 : ((mi : Nat) : Int) % 60 = (vl y (1 + m) (1 + d) mi 78 : Nat) := by show _ = ((mi % 60 : Nat) : Int); omega
    have k72 : ((mi : Nat) : Int) / 60 = ((mi / 60 : Nat) : Int) := by omega
    have k78 : ((mi : Nat) : Int) % 60 = ((mi % 60 : Nat) : Int) := by omega
    generalize vl y (1 + m) (1 + d) mi = v at *
    have p40 : P.length ≤ 40 := by rw [len_tl]; exact isP_len hp
    have wl : 1 ≤ (WS v (tl P)).length ∧ (WS v (tl P)).length ≤ 160 := by
      have := Wr_len (v := v) (tl P) fun c _ h => hv.len h
      have m3 := (isP_mem hp).1
      have : 1 ≤ (tl P).length := List.length_pos_of_mem m3
      have := isP_len hp
      rw [len_tl]
      show 1 ≤ (Wr v (tl P)).length ∧ (Wr v (tl P)).length ≤ 160
      omega
    refine write_go p40 hv e72 e78 ?_
    walk_at "mo"
    refine lwrite_go p40 hv e72 e78 ?_
    walk_at "mo"
    rw [inH "H" 72 P sH]
    have tg : ∀ kp, kp = kept (tl P) mi → ∀ s : PyData, SatS (tailX [.val (scr ns), .own T6, .val (calD c), .val (.str P), .val (.bool true), .val (dtD v), .val (.int (mi : Int)), .val (.str (WS v (tl P))), .val (.int kp), .no, .no]) (fun _ => PyData.none = .bool true) (fun d _ => d = .bool true) (fun _ => False) (fun _ => False) (fun _ _ _ => False) := fun kp h _ => by
      unfold tailX
      subst h
      exact tail_go hc hp p40 hT6 wl ow rfl
    unfold kept at tg
    by_cases z72 : 72 ∈ tl P
    · rw [decide_eq_true z72]
      rw [if_pos z72] at tg
      walk_at "mo"
      rw [inH "N" 78 P sN]
      by_cases z78 : 78 ∈ tl P
      · rw [decide_eq_true z78]
        rw [if_pos z78] at tg
        walk_at "mo"
        exact tg _ (by omega) .none
      · rw [decide_eq_false z78]
        rw [if_neg z78] at tg
        walk_at "mo"
        exact tg _ (by omega) .none
    · rw [decide_eq_false z72]
      rw [if_neg z72] at tg
      walk_at "mo"
      rw [inH "N" 78 P sN]
      by_cases z78 : 78 ∈ tl P
      · rw [decide_eq_true z78]
        rw [if_pos z78] at tg
        walk_at "mo"
        exact tg _ (by omega) .none
      · rw [decide_eq_false z78]
        rw [if_neg z78] at tg
        walk_at "mo"
        exact tg _ (by omega) .none

end K33

set_option Elab.async false
set_option linter.all false
set_option maxRecDepth 100000
namespace K33
open PySem PySem.Spec PyProof.Rows L2 Mi
set_option maxHeartbeats 8000000 in
theorem all_mk {l : PySem.W.OpenLaw} {w : World} {K : PySem.W.Frag} {h : Heap} {mg : Str → Option Value} {fa : Addr} (X : K.In h) (G : h.Ns mainGlobals mg) (hfa : mg "law" = some (.ref fa))
    {f0 : Addr} {od0 an0 : Option Addr} {sl0 : Array (Option Value)} {oc0 kV0 dc0 pm0 cd0 ct0 : Value} (a0 : PySem.W.nsIn K mainGlobals "day_of" = some (some (.ref f0))) (l0 : K.lookup f0 = some ⟨oc0, od0, .func (PySem.W.fnOf "day_of" "day_of" (defArgs s_day_of) (defBody s_day_of) (defScope s_day_of) .none kV0 dc0 pm0 an0 cd0 ct0), sl0⟩) (c0 : PySem.W.codeIn K cd0 "day_of" = true) (k0 : PySem.W.keepIn K (.ref f0) = true)
    {f1 : Addr} {od1 an1 : Option Addr} {sl1 : Array (Option Value)} {oc1 kV1 dc1 pm1 cd1 ct1 : Value} (a1 : PySem.W.nsIn K mainGlobals "date_fault" = some (some (.ref f1))) (l1 : K.lookup f1 = some ⟨oc1, od1, .func (PySem.W.fnOf "date_fault" "date_fault" (defArgs s_date_fault) (defBody s_date_fault) (defScope s_date_fault) .none kV1 dc1 pm1 an1 cd1 ct1), sl1⟩) (c1 : PySem.W.codeIn K cd1 "date_fault" = true) (k1 : PySem.W.keepIn K (.ref f1) = true)
    {f2 : Addr} {od2 an2 : Option Addr} {sl2 : Array (Option Value)} {oc2 kV2 dc2 pm2 cd2 ct2 : Value} (a2 : PySem.W.nsIn K mainGlobals "months_of" = some (some (.ref f2))) (l2 : K.lookup f2 = some ⟨oc2, od2, .func (PySem.W.fnOf "months_of" "months_of" (defArgs s_months_of) (defBody s_months_of) (defScope s_months_of) .none kV2 dc2 pm2 an2 cd2 ct2), sl2⟩) (c2 : PySem.W.codeIn K cd2 "months_of" = true) (k2 : PySem.W.keepIn K (.ref f2) = true)
    {f3 : Addr} {od3 an3 : Option Addr} {sl3 : Array (Option Value)} {oc3 kV3 dc3 pm3 cd3 ct3 : Value} (a3 : PySem.W.nsIn K mainGlobals "year_start" = some (some (.ref f3))) (l3 : K.lookup f3 = some ⟨oc3, od3, .func (PySem.W.fnOf "year_start" "year_start" (defArgs s_year_start) (defBody s_year_start) (defScope s_year_start) .none kV3 dc3 pm3 an3 cd3 ct3), sl3⟩) (c3 : PySem.W.codeIn K cd3 "year_start" = true) (k3 : PySem.W.keepIn K (.ref f3) = true)
    {f4 : Addr} {od4 an4 : Option Addr} {sl4 : Array (Option Value)} {oc4 kV4 dc4 pm4 cd4 ct4 : Value} (a4 : PySem.W.nsIn K mainGlobals "month_start" = some (some (.ref f4))) (l4 : K.lookup f4 = some ⟨oc4, od4, .func (PySem.W.fnOf "month_start" "month_start" (defArgs s_month_start) (defBody s_month_start) (defScope s_month_start) .none kV4 dc4 pm4 an4 cd4 ct4), sl4⟩) (c4 : PySem.W.codeIn K cd4 "month_start" = true) (k4 : PySem.W.keepIn K (.ref f4) = true)
    {f5 : Addr} {od5 an5 : Option Addr} {sl5 : Array (Option Value)} {oc5 kV5 dc5 pm5 cd5 ct5 : Value} (a5 : PySem.W.nsIn K mainGlobals "_is_leap" = some (some (.ref f5))) (l5 : K.lookup f5 = some ⟨oc5, od5, .func (PySem.W.fnOf "_is_leap" "_is_leap" (defArgs s__is_leap) (defBody s__is_leap) (defScope s__is_leap) .none kV5 dc5 pm5 an5 cd5 ct5), sl5⟩) (c5 : PySem.W.codeIn K cd5 "_is_leap" = true) (k5 : PySem.W.keepIn K (.ref f5) = true)
    {f6 : Addr} {od6 an6 : Option Addr} {sl6 : Array (Option Value)} {oc6 kV6 dc6 pm6 cd6 ct6 : Value} (a6 : PySem.W.nsIn K mainGlobals "_length_of" = some (some (.ref f6))) (l6 : K.lookup f6 = some ⟨oc6, od6, .func (PySem.W.fnOf "_length_of" "_length_of" (defArgs s__length_of) (defBody s__length_of) (defScope s__length_of) .none kV6 dc6 pm6 an6 cd6 ct6), sl6⟩) (c6 : PySem.W.codeIn K cd6 "_length_of" = true) (k6 : PySem.W.keepIn K (.ref f6) = true)
    {f7 : Addr} {od7 an7 : Option Addr} {sl7 : Array (Option Value)} {oc7 kV7 dc7 pm7 cd7 ct7 : Value} (a7 : PySem.W.nsIn K mainGlobals "is_pattern" = some (some (.ref f7))) (l7 : K.lookup f7 = some ⟨oc7, od7, .func (PySem.W.fnOf "is_pattern" "is_pattern" (defArgs s_is_pattern) (defBody s_is_pattern) (defScope s_is_pattern) .none kV7 dc7 pm7 an7 cd7 ct7), sl7⟩) (c7 : PySem.W.codeIn K cd7 "is_pattern" = true) (k7 : PySem.W.keepIn K (.ref f7) = true)
    {f8 : Addr} {od8 an8 : Option Addr} {sl8 : Array (Option Value)} {oc8 kV8 dc8 pm8 cd8 ct8 : Value} (a8 : PySem.W.nsIn K mainGlobals "write" = some (some (.ref f8))) (l8 : K.lookup f8 = some ⟨oc8, od8, .func (PySem.W.fnOf "write" "write" (defArgs s_write) (defBody s_write) (defScope s_write) .none kV8 dc8 pm8 an8 cd8 ct8), sl8⟩) (c8 : PySem.W.codeIn K cd8 "write" = true) (k8 : PySem.W.keepIn K (.ref f8) = true)
    {f9 : Addr} {od9 an9 : Option Addr} {sl9 : Array (Option Value)} {oc9 kV9 dc9 pm9 cd9 ct9 : Value} (a9 : PySem.W.nsIn K mainGlobals "read" = some (some (.ref f9))) (l9 : K.lookup f9 = some ⟨oc9, od9, .func (PySem.W.fnOf "read" "read" (defArgs s_read) (defBody s_read) (defScope s_read) .none kV9 dc9 pm9 an9 cd9 ct9), sl9⟩) (c9 : PySem.W.codeIn K cd9 "read" = true) (k9 : PySem.W.keepIn K (.ref f9) = true)
    {f10 : Addr} {od10 an10 : Option Addr} {sl10 : Array (Option Value)} {oc10 kV10 dc10 pm10 cd10 ct10 : Value} (a10 : PySem.W.nsIn K mainGlobals "_is_capital_or_digit" = some (some (.ref f10))) (l10 : K.lookup f10 = some ⟨oc10, od10, .func (PySem.W.fnOf "_is_capital_or_digit" "_is_capital_or_digit" (defArgs s__is_capital_or_digit) (defBody s__is_capital_or_digit) (defScope s__is_capital_or_digit) .none kV10 dc10 pm10 an10 cd10 ct10), sl10⟩) (c10 : PySem.W.codeIn K cd10 "_is_capital_or_digit" = true) (k10 : PySem.W.keepIn K (.ref f10) = true)
    {f11 : Addr} {od11 an11 : Option Addr} {sl11 : Array (Option Value)} {oc11 kV11 dc11 pm11 cd11 ct11 : Value} (a11 : PySem.W.nsIn K mainGlobals "_fits" = some (some (.ref f11))) (l11 : K.lookup f11 = some ⟨oc11, od11, .func (PySem.W.fnOf "_fits" "_fits" (defArgs s__fits) (defBody s__fits) (defScope s__fits) .none kV11 dc11 pm11 an11 cd11 ct11), sl11⟩) (c11 : PySem.W.codeIn K cd11 "_fits" = true) (k11 : PySem.W.keepIn K (.ref f11) = true)
    {f12 : Addr} {od12 an12 : Option Addr} {sl12 : Array (Option Value)} {oc12 kV12 dc12 pm12 cd12 ct12 : Value} (a12 : PySem.W.nsIn K mainGlobals "_is_date" = some (some (.ref f12))) (l12 : K.lookup f12 = some ⟨oc12, od12, .func (PySem.W.fnOf "_is_date" "_is_date" (defArgs s__is_date) (defBody s__is_date) (defScope s__is_date) .none kV12 dc12 pm12 an12 cd12 ct12), sl12⟩) (c12 : PySem.W.codeIn K cd12 "_is_date" = true) (k12 : PySem.W.keepIn K (.ref f12) = true)
    {f13 : Addr} {od13 an13 : Option Addr} {sl13 : Array (Option Value)} {oc13 kV13 dc13 pm13 cd13 ct13 : Value} (a13 : PySem.W.nsIn K mainGlobals "_law_start" = some (some (.ref f13))) (l13 : K.lookup f13 = some ⟨oc13, od13, .func (PySem.W.fnOf "_law_start" "_law_start" (defArgs s__law_start) (defBody s__law_start) (defScope s__law_start) .none kV13 dc13 pm13 an13 cd13 ct13), sl13⟩) (c13 : PySem.W.codeIn K cd13 "_law_start" = true) (k13 : PySem.W.keepIn K (.ref f13) = true)
    {f14 : Addr} {od14 an14 : Option Addr} {sl14 : Array (Option Value)} {oc14 kV14 dc14 pm14 cd14 ct14 : Value} (a14 : PySem.W.nsIn K mainGlobals "_law_draw" = some (some (.ref f14))) (l14 : K.lookup f14 = some ⟨oc14, od14, .func (PySem.W.fnOf "_law_draw" "_law_draw" (defArgs s__law_draw) (defBody s__law_draw) (defScope s__law_draw) .none kV14 dc14 pm14 an14 cd14 ct14), sl14⟩) (c14 : PySem.W.codeIn K cd14 "_law_draw" = true) (k14 : PySem.W.keepIn K (.ref f14) = true)
    {f15 : Addr} {od15 an15 : Option Addr} {sl15 : Array (Option Value)} {oc15 kV15 dc15 pm15 cd15 ct15 : Value} (a15 : PySem.W.nsIn K mainGlobals "_law_pick" = some (some (.ref f15))) (l15 : K.lookup f15 = some ⟨oc15, od15, .func (PySem.W.fnOf "_law_pick" "_law_pick" (defArgs s__law_pick) (defBody s__law_pick) (defScope s__law_pick) .none kV15 dc15 pm15 an15 cd15 ct15), sl15⟩) (c15 : PySem.W.codeIn K cd15 "_law_pick" = true) (k15 : PySem.W.keepIn K (.ref f15) = true)
    {f16 : Addr} {od16 an16 : Option Addr} {sl16 : Array (Option Value)} {oc16 kV16 dc16 pm16 cd16 ct16 : Value} (a16 : PySem.W.nsIn K mainGlobals "_law_is" = some (some (.ref f16))) (l16 : K.lookup f16 = some ⟨oc16, od16, .func (PySem.W.fnOf "_law_is" "_law_is" (defArgs s__law_is) (defBody s__law_is) (defScope s__law_is) .none kV16 dc16 pm16 an16 cd16 ct16), sl16⟩) (c16 : PySem.W.codeIn K cd16 "_law_is" = true) (k16 : PySem.W.keepIn K (.ref f16) = true)
    {f17 : Addr} {od17 an17 : Option Addr} {sl17 : Array (Option Value)} {oc17 kV17 dc17 pm17 cd17 ct17 : Value} (a17 : PySem.W.nsIn K mainGlobals "_law_pattern" = some (some (.ref f17))) (l17 : K.lookup f17 = some ⟨oc17, od17, .func (PySem.W.fnOf "_law_pattern" "_law_pattern" (defArgs s__law_pattern) (defBody s__law_pattern) (defScope s__law_pattern) .none kV17 dc17 pm17 an17 cd17 ct17), sl17⟩) (c17 : PySem.W.codeIn K cd17 "_law_pattern" = true) (k17 : PySem.W.keepIn K (.ref f17) = true)
    {f18 : Addr} {od18 an18 : Option Addr} {sl18 : Array (Option Value)} {oc18 kV18 dc18 pm18 cd18 ct18 : Value} (a18 : PySem.W.nsIn K mainGlobals "_law_is_pattern" = some (some (.ref f18))) (l18 : K.lookup f18 = some ⟨oc18, od18, .func (PySem.W.fnOf "_law_is_pattern" "_law_is_pattern" (defArgs s__law_is_pattern) (defBody s__law_is_pattern) (defScope s__law_is_pattern) .none kV18 dc18 pm18 an18 cd18 ct18), sl18⟩) (c18 : PySem.W.codeIn K cd18 "_law_is_pattern" = true) (k18 : PySem.W.keepIn K (.ref f18) = true)
    {f19 : Addr} {od19 an19 : Option Addr} {sl19 : Array (Option Value)} {oc19 kV19 dc19 pm19 cd19 ct19 : Value} (a19 : PySem.W.nsIn K mainGlobals "_law_written" = some (some (.ref f19))) (l19 : K.lookup f19 = some ⟨oc19, od19, .func (PySem.W.fnOf "_law_written" "_law_written" (defArgs s__law_written) (defBody s__law_written) (defScope s__law_written) .none kV19 dc19 pm19 an19 cd19 ct19), sl19⟩) (c19 : PySem.W.codeIn K cd19 "_law_written" = true) (k19 : PySem.W.keepIn K (.ref f19) = true)
    {f20 : Addr} {od20 an20 : Option Addr} {sl20 : Array (Option Value)} {oc20 kV20 dc20 pm20 cd20 ct20 : Value} (a20 : PySem.W.nsIn K mainGlobals "_law_read" = some (some (.ref f20))) (l20 : K.lookup f20 = some ⟨oc20, od20, .func (PySem.W.fnOf "_law_read" "_law_read" (defArgs s__law_read) (defBody s__law_read) (defScope s__law_read) .none kV20 dc20 pm20 an20 cd20 ct20), sl20⟩) (c20 : PySem.W.codeIn K cd20 "_law_read" = true) (k20 : PySem.W.keepIn K (.ref f20) = true)
    {f21 : Addr} {od21 an21 : Option Addr} {sl21 : Array (Option Value)} {oc21 kV21 dc21 pm21 cd21 ct21 : Value} (a21 : PySem.W.nsIn K mainGlobals "_law_told" = some (some (.ref f21))) (l21 : K.lookup f21 = some ⟨oc21, od21, .func (PySem.W.fnOf "_law_told" "_law_told" (defArgs s__law_told) (defBody s__law_told) (defScope s__law_told) .none kV21 dc21 pm21 an21 cd21 ct21), sl21⟩) (c21 : PySem.W.codeIn K cd21 "_law_told" = true) (k21 : PySem.W.keepIn K (.ref f21) = true)
    {f22 : Addr} {od22 an22 : Option Addr} {sl22 : Array (Option Value)} {oc22 kV22 dc22 pm22 cd22 ct22 : Value} (a22 : PySem.W.nsIn K mainGlobals "law" = some (some (.ref f22))) (l22 : K.lookup f22 = some ⟨oc22, od22, .func (PySem.W.fnOf "law" "law" (defArgs s_law) (defBody s_law) (defScope s_law) .none kV22 dc22 pm22 an22 cd22 ct22), sl22⟩) (c22 : PySem.W.codeIn K cd22 "law" = true) (k22 : PySem.W.keepIn K (.ref f22) = true)
    {t0 : Tok} (cn0 : PySem.W.nsIn K mainGlobals "YEAR_LIMIT" = some (some (.int 10000 t0)))
    {t1 : Tok} (cn1 : PySem.W.nsIn K mainGlobals "LONGEST" = some (some (.int 40 t1)))
    (z0 : PySem.W.nsIn K mainGlobals "abs" = some none)
    (z1 : PySem.W.nsIn K mainGlobals "all" = some none)
    (z2 : PySem.W.nsIn K mainGlobals "any" = some none)
    (z3 : PySem.W.nsIn K mainGlobals "bool" = some none)
    (z4 : PySem.W.nsIn K mainGlobals "divmod" = some none)
    (z5 : PySem.W.nsIn K mainGlobals "int" = some none)
    (z6 : PySem.W.nsIn K mainGlobals "isinstance" = some none)
    (z7 : PySem.W.nsIn K mainGlobals "len" = some none)
    (z8 : PySem.W.nsIn K mainGlobals "max" = some none)
    (z9 : PySem.W.nsIn K mainGlobals "range" = some none)
    (z10 : PySem.W.nsIn K mainGlobals "str" = some none)
    (z11 : PySem.W.nsIn K mainGlobals "sum" = some none)
    (z12 : PySem.W.nsIn K mainGlobals "tuple" = some none)
    {ct1 : Tok} {ct2 : Tok} {ct3 : Tok} {ct4 : Tok} {ct5 : Tok} {ct6 : Tok} {ct7 : Tok} {ct8 : Tok} {ct9 : Tok} {ct10 : Tok} {ct11 : Tok} {ct12 : Tok} {ca0 : Addr} {cd0 : Option Addr} {cm0 : Nat} {cs0 : Array (Option Value)} (cq_MONTHS : PySem.W.nsIn K mainGlobals "MONTHS" = some (some (.ref ca0))) (ch0 : K.lookup ca0 = some ⟨.type "tuple", cd0, .seq #[.int (31) ct1, .int (28) ct2, .int (31) ct3, .int (30) ct4, .int (31) ct5, .int (30) ct6, .int (31) ct7, .int (31) ct8, .int (30) ct9, .int (31) ct10, .int (30) ct11, .int (31) ct12] cm0, cs0⟩)
    {ct14 : Tok} {ct15 : Tok} {ct16 : Tok} {ct17 : Tok} {ct18 : Tok} {ct19 : Tok} {ct20 : Tok} {ct21 : Tok} {ct22 : Tok} {ct23 : Tok} {ct24 : Tok} {ct25 : Tok} {ca13 : Addr} {cd13 : Option Addr} {cm13 : Nat} {cs13 : Array (Option Value)} (cq_LEAP_MONTHS : PySem.W.nsIn K mainGlobals "LEAP_MONTHS" = some (some (.ref ca13))) (ch13 : K.lookup ca13 = some ⟨.type "tuple", cd13, .seq #[.int (31) ct14, .int (29) ct15, .int (31) ct16, .int (30) ct17, .int (31) ct18, .int (30) ct19, .int (31) ct20, .int (31) ct21, .int (30) ct22, .int (31) ct23, .int (30) ct24, .int (31) ct25] cm13, cs13⟩)
    {da_DIGITS : Addr} {dn_DIGITS : Nat} {dk_DIGITS0 dv_DIGITS0 : Tok} {dk_DIGITS1 dv_DIGITS1 : Tok} {dk_DIGITS2 dv_DIGITS2 : Tok} {dk_DIGITS3 dv_DIGITS3 : Tok} {dk_DIGITS4 dv_DIGITS4 : Tok} (dq_DIGITS : PySem.W.nsIn K mainGlobals "DIGITS" = some (some (.ref da_DIGITS))) (dl_DIGITS : K.lookup da_DIGITS = some ⟨.type "dict", none, .dict #[⟨PyData.keyHash w.params "Y", .str "Y" dk_DIGITS0, .int (4) dv_DIGITS0⟩, ⟨PyData.keyHash w.params "M", .str "M" dk_DIGITS1, .int (2) dv_DIGITS1⟩, ⟨PyData.keyHash w.params "D", .str "D" dk_DIGITS2, .int (2) dv_DIGITS2⟩, ⟨PyData.keyHash w.params "H", .str "H" dk_DIGITS3, .int (2) dv_DIGITS3⟩, ⟨PyData.keyHash w.params "N", .str "N" dk_DIGITS4, .int (2) dv_DIGITS4⟩] dn_DIGITS, #[]⟩) (ds_DIGITS : (da_DIGITS == sysModules) = false)
    {x0C x0f : Addr} {x0B0 : Addr} {x0nm x0q : Str} {x0N : Addr} {x0bs : List Value} {x0sn : List Str} {x0sub : List Value} {x0ab : Bool} {x0col : Option Bool} {x0dd : Option Addr} {x0m0 x0m1 x0m2 x0m3 x0m5 : Option Value} {x0od x0an : Option Addr} {x0sl : Array (Option Value)} {x0oc x0kV x0dc x0pm x0cd x0ct : Value} (ax0 : PySem.W.nsIn K mainGlobals "DateError" = some (some (.ref x0C))) (Lx0 : K.lookup x0C = some (excClassObj x0nm x0q x0C x0N x0bs [.ref x0B0, .type "ValueError", .type "Exception", .type "BaseException", .type "object"] true x0sn x0sub x0ab x0col x0dd x0m0 x0m1 x0m2 x0m3 x0m5 "ValueError.__new__")) (sax0 : PySem.W.findIn K (.ref x0C) "__setattr__" = some (some (.builtin "object.__setattr__"))) (gax0 : PySem.W.findIn K (.ref x0C) "__getattribute__" = some (some (.builtin "BaseException.__getattribute__"))) (ggx0 : PySem.W.findIn K (.ref x0C) "__getattr__" = some none) (nbx0_0 : PySem.W.findIn K (.ref x0C) "code" = some none) (ix0 : PySem.W.findIn K (.ref x0C) "__init__" = some (some (.ref x0f))) (tx0 : PySem.W.typeIn K (.ref x0f) = some (.type "function")) (lx0 : K.lookup x0f = some ⟨x0oc, x0od, .func (PySem.W.fnOf "__init__" "DateError.__init__" (defArgs s_DateError__init) (defBody s_DateError__init) (defScope s_DateError__init) .none x0kV x0dc x0pm x0an x0cd x0ct), x0sl⟩) (cx0 : PySem.W.codeIn K x0cd "DateError.__init__" = true) (kfx0 : PySem.W.keepIn K (.ref x0f) = true) (kx0 : PySem.W.keepIn K (.ref x0C) = true) (ex0 : PySem.W.subIn K (.ref x0C) (.type "BaseException") = some true) (tyx0 : PySem.W.typeIn K (.ref x0C) = some (.type "type")) (hx0 : PySem.W.hasDictIn K x0C = true) (icx0 : PySem.W.isClsIn K x0C = true) (ssx0 : PySem.W.subIn K (.ref x0C) (.ref x0C) = some true)
    {x1C x1f : Addr} {x1B0 : Addr} {x1nm x1q : Str} {x1N : Addr} {x1bs : List Value} {x1sn : List Str} {x1sub : List Value} {x1ab : Bool} {x1col : Option Bool} {x1dd : Option Addr} {x1m0 x1m1 x1m2 x1m3 x1m5 : Option Value} {x1od x1an : Option Addr} {x1sl : Array (Option Value)} {x1oc x1kV x1dc x1pm x1cd x1ct : Value} (ax1 : PySem.W.nsIn K mainGlobals "PatternError" = some (some (.ref x1C))) (Lx1 : K.lookup x1C = some (excClassObj x1nm x1q x1C x1N x1bs [.ref x1B0, .type "ValueError", .type "Exception", .type "BaseException", .type "object"] true x1sn x1sub x1ab x1col x1dd x1m0 x1m1 x1m2 x1m3 x1m5 "ValueError.__new__")) (sax1 : PySem.W.findIn K (.ref x1C) "__setattr__" = some (some (.builtin "object.__setattr__"))) (gax1 : PySem.W.findIn K (.ref x1C) "__getattribute__" = some (some (.builtin "BaseException.__getattribute__"))) (ggx1 : PySem.W.findIn K (.ref x1C) "__getattr__" = some none) (nbx1_0 : PySem.W.findIn K (.ref x1C) "at" = some none) (ix1 : PySem.W.findIn K (.ref x1C) "__init__" = some (some (.ref x1f))) (tx1 : PySem.W.typeIn K (.ref x1f) = some (.type "function")) (lx1 : K.lookup x1f = some ⟨x1oc, x1od, .func (PySem.W.fnOf "__init__" "PatternError.__init__" (defArgs s_PatternError__init) (defBody s_PatternError__init) (defScope s_PatternError__init) .none x1kV x1dc x1pm x1an x1cd x1ct), x1sl⟩) (cx1 : PySem.W.codeIn K x1cd "PatternError.__init__" = true) (kfx1 : PySem.W.keepIn K (.ref x1f) = true) (kx1 : PySem.W.keepIn K (.ref x1C) = true) (ex1 : PySem.W.subIn K (.ref x1C) (.type "BaseException") = some true) (tyx1 : PySem.W.typeIn K (.ref x1C) = some (.type "type")) (hx1 : PySem.W.hasDictIn K x1C = true) (icx1 : PySem.W.isClsIn K x1C = true) (ssx1 : PySem.W.subIn K (.ref x1C) (.ref x1C) = some true)
    : ∃ fd : FuncData, (∀ (s : Shared) (v : Value), BindsTo s fd ⟨[v], []⟩ [("script", v)]) ∧ ∀ base : Heap, K.In base → base.Ns mainGlobals mg → FnOk l.prog w K mg base CX0 8 fa fd ["script"] (Mi.spLaw K) := by
  have e := hfa.symm.trans (PySem.W.mg_of X G a22)
  cases e
  have F0 := fun_mk (st := s_day_of) l0 c0 k0
  have b0 : L2.Binds K _ ["calendar", "date"] [] := F0.binds (ps := ["calendar", "date"]) fun _ _ _ _ _ _ us hl => match us, hl with | [_, _], _ => rfl
  have F1 := fun_mk (st := s_date_fault) l1 c1 k1
  have b1 : L2.Binds K _ ["calendar", "date"] [] := F1.binds (ps := ["calendar", "date"]) fun _ _ _ _ _ _ us hl => match us, hl with | [_, _], _ => rfl
  have F2 := fun_mk (st := s_months_of) l2 c2 k2
  have b2 : L2.Binds K _ ["calendar", "year"] [] := F2.binds (ps := ["calendar", "year"]) fun _ _ _ _ _ _ us hl => match us, hl with | [_, _], _ => rfl
  have F3 := fun_mk (st := s_year_start) l3 c3 k3
  have b3 : L2.Binds K _ ["calendar", "year"] [] := F3.binds (ps := ["calendar", "year"]) fun _ _ _ _ _ _ us hl => match us, hl with | [_, _], _ => rfl
  have F4 := fun_mk (st := s_month_start) l4 c4 k4
  have b4 : L2.Binds K _ ["calendar", "year", "month"] [] := F4.binds (ps := ["calendar", "year", "month"]) fun _ _ _ _ _ _ us hl => match us, hl with | [_, _, _], _ => rfl
  have F5 := fun_mk (st := s__is_leap) l5 c5 k5
  have b5 : L2.Binds K _ ["calendar", "year"] [] := F5.binds (ps := ["calendar", "year"]) fun _ _ _ _ _ _ us hl => match us, hl with | [_, _], _ => rfl
  have F6 := fun_mk (st := s__length_of) l6 c6 k6
  have b6 : L2.Binds K _ ["years"] [] := F6.binds (ps := ["years"]) fun _ _ _ _ _ _ us hl => match us, hl with | [_], _ => rfl
  have F7 := fun_mk (st := s_is_pattern) l7 c7 k7
  have b7 : L2.Binds K _ ["pattern"] [] := F7.binds (ps := ["pattern"]) fun _ _ _ _ _ _ us hl => match us, hl with | [_], _ => rfl
  have F8 := fun_mk (st := s_write) l8 c8 k8
  have b8 : L2.Binds K _ ["pattern", "date", "minute"] [] := F8.binds (ps := ["pattern", "date", "minute"]) fun _ _ _ _ _ _ us hl => match us, hl with | [_, _, _], _ => rfl
  have F9 := fun_mk (st := s_read) l9 c9 k9
  have b9 : L2.Binds K _ ["calendar", "pattern", "text"] [] := F9.binds (ps := ["calendar", "pattern", "text"]) fun _ _ _ _ _ _ us hl => match us, hl with | [_, _, _], _ => rfl
  have F10 := fun_mk (st := s__is_capital_or_digit) l10 c10 k10
  have b10 : L2.Binds K _ ["letter"] [] := F10.binds (ps := ["letter"]) fun _ _ _ _ _ _ us hl => match us, hl with | [_], _ => rfl
  have F11 := fun_mk (st := s__fits) l11 c11 k11
  have b11 : L2.Binds K _ ["letter", "written"] [] := F11.binds (ps := ["letter", "written"]) fun _ _ _ _ _ _ us hl => match us, hl with | [_, _], _ => rfl
  have F12 := fun_mk (st := s__is_date) l12 c12 k12
  have b12 : L2.Binds K _ ["calendar", "date"] [] := F12.binds (ps := ["calendar", "date"]) fun _ _ _ _ _ _ us hl => match us, hl with | [_, _], _ => rfl
  have F13 := fun_mk (st := s__law_start) l13 c13 k13
  have b13 : L2.Binds K _ ["script"] [] := F13.binds (ps := ["script"]) fun _ _ _ _ _ _ us hl => match us, hl with | [_], _ => rfl
  have F14 := fun_mk (st := s__law_draw) l14 c14 k14
  have b14 : L2.Binds K _ ["state", "bound"] [] := F14.binds (ps := ["state", "bound"]) fun _ _ _ _ _ _ us hl => match us, hl with | [_, _], _ => rfl
  have F15 := fun_mk (st := s__law_pick) l15 c15 k15
  have b15 : L2.Binds K _ ["state", "things"] [] := F15.binds (ps := ["state", "things"]) fun _ _ _ _ _ _ us hl => match us, hl with | [_, _], _ => rfl
  have F16 := fun_mk (st := s__law_is) l16 c16 k16
  have b16 : L2.Binds K _ ["actual", "due"] [] := F16.binds (ps := ["actual", "due"]) fun _ _ _ _ _ _ us hl => match us, hl with | [_, _], _ => rfl
  have F17 := fun_mk (st := s__law_pattern) l17 c17 k17
  have b17 : L2.Binds K _ ["state"] [] := F17.binds (ps := ["state"]) fun _ _ _ _ _ _ us hl => match us, hl with | [_], _ => rfl
  have F18 := fun_mk (st := s__law_is_pattern) l18 c18 k18
  have b18 : L2.Binds K _ ["pattern"] [] := F18.binds (ps := ["pattern"]) fun _ _ _ _ _ _ us hl => match us, hl with | [_], _ => rfl
  have F19 := fun_mk (st := s__law_written) l19 c19 k19
  have b19 : L2.Binds K _ ["pattern", "date", "minute"] [] := F19.binds (ps := ["pattern", "date", "minute"]) fun _ _ _ _ _ _ us hl => match us, hl with | [_, _, _], _ => rfl
  have F20 := fun_mk (st := s__law_read) l20 c20 k20
  have b20 : L2.Binds K _ ["calendar", "pattern", "text"] [] := F20.binds (ps := ["calendar", "pattern", "text"]) fun _ _ _ _ _ _ us hl => match us, hl with | [_, _, _], _ => rfl
  have F21 := fun_mk (st := s__law_told) l21 c21 k21
  have b21 : L2.Binds K _ ["calendar", "pattern", "text"] [] := F21.binds (ps := ["calendar", "pattern", "text"]) fun _ _ _ _ _ _ us hl => match us, hl with | [_, _, _], _ => rfl
  have F22 := fun_mk (st := s_law) l22 c22 k22
  have b22 : L2.Binds K _ ["script"] [] := F22.binds (ps := ["script"]) fun _ _ _ _ _ _ us hl => match us, hl with | [_], _ => rfl
  have FX0 := fun_mk (st := s_DateError__init) lx0 cx0 kfx0
  have BX0 : L2.Binds K _ ["self", "code"] [] := FX0.binds (ps := ["self", "code"]) fun _ _ _ _ _ _ us hl => match us, hl with | [_, _], _ => rfl
  have FX1 := fun_mk (st := s_PatternError__init) lx1 cx1 kfx1
  have BX1 : L2.Binds K _ ["self", "at"] [] := FX1.binds (ps := ["self", "at"]) fun _ _ _ _ _ _ us hl => match us, hl with | [_, _], _ => rfl
  have T : Txt w K mg := ⟨⟨_, PySem.W.mg_of X G cn0⟩, ⟨_, PySem.W.mg_of X G cn1⟩, PySem.W.mg_none_of X G z0, PySem.W.mg_none_of X G z1, PySem.W.mg_none_of X G z2, PySem.W.mg_none_of X G z3, PySem.W.mg_none_of X G z4, PySem.W.mg_none_of X G z5, PySem.W.mg_none_of X G z6, PySem.W.mg_none_of X G z7, PySem.W.mg_none_of X G z8, PySem.W.mg_none_of X G z9, PySem.W.mg_none_of X G z10, PySem.W.mg_none_of X G z11, PySem.W.mg_none_of X G z12, ⟨_, _, F0, PySem.W.mg_of X G a0, b0⟩, ⟨_, _, F1, PySem.W.mg_of X G a1, b1⟩, ⟨_, _, F2, PySem.W.mg_of X G a2, b2⟩, ⟨_, _, F3, PySem.W.mg_of X G a3, b3⟩, ⟨_, _, F4, PySem.W.mg_of X G a4, b4⟩, ⟨_, _, F5, PySem.W.mg_of X G a5, b5⟩, ⟨_, _, F6, PySem.W.mg_of X G a6, b6⟩, ⟨_, _, F7, PySem.W.mg_of X G a7, b7⟩, ⟨_, _, F8, PySem.W.mg_of X G a8, b8⟩, ⟨_, _, F9, PySem.W.mg_of X G a9, b9⟩, ⟨_, _, F10, PySem.W.mg_of X G a10, b10⟩, ⟨_, _, F11, PySem.W.mg_of X G a11, b11⟩, ⟨_, _, F12, PySem.W.mg_of X G a12, b12⟩, ⟨_, _, F13, PySem.W.mg_of X G a13, b13⟩, ⟨_, _, F14, PySem.W.mg_of X G a14, b14⟩, ⟨_, _, F15, PySem.W.mg_of X G a15, b15⟩, ⟨_, _, F16, PySem.W.mg_of X G a16, b16⟩, ⟨_, _, F17, PySem.W.mg_of X G a17, b17⟩, ⟨_, _, F18, PySem.W.mg_of X G a18, b18⟩, ⟨_, _, F19, PySem.W.mg_of X G a19, b19⟩, ⟨_, _, F20, PySem.W.mg_of X G a20, b20⟩, ⟨_, _, F21, PySem.W.mg_of X G a21, b21⟩, ⟨_, _, F22, PySem.W.mg_of X G a22, b22⟩, ⟨_, PySem.W.mg_of X G cq_MONTHS, fun F => (rp_tupK (xs := [V.int (31), V.int (28), V.int (31), V.int (30), V.int (31), V.int (30), V.int (31), V.int (31), V.int (30), V.int (31), V.int (30), V.int (31)]) ch0 (by simp) (.cons ⟨_, rfl⟩ (.cons ⟨_, rfl⟩ (.cons ⟨_, rfl⟩ (.cons ⟨_, rfl⟩ (.cons ⟨_, rfl⟩ (.cons ⟨_, rfl⟩ (.cons ⟨_, rfl⟩ (.cons ⟨_, rfl⟩ (.cons ⟨_, rfl⟩ (.cons ⟨_, rfl⟩ (.cons ⟨_, rfl⟩ (.cons ⟨_, rfl⟩ .nil)))))))))))) (.cons (.int _) (.cons (.int _) (.cons (.int _) (.cons (.int _) (.cons (.int _) (.cons (.int _) (.cons (.int _) (.cons (.int _) (.cons (.int _) (.cons (.int _) (.cons (.int _) (.cons (.int _) .nil)))))))))))))⟩, ⟨_, PySem.W.mg_of X G cq_LEAP_MONTHS, fun F => (rp_tupK (xs := [V.int (31), V.int (29), V.int (31), V.int (30), V.int (31), V.int (30), V.int (31), V.int (31), V.int (30), V.int (31), V.int (30), V.int (31)]) ch13 (by simp) (.cons ⟨_, rfl⟩ (.cons ⟨_, rfl⟩ (.cons ⟨_, rfl⟩ (.cons ⟨_, rfl⟩ (.cons ⟨_, rfl⟩ (.cons ⟨_, rfl⟩ (.cons ⟨_, rfl⟩ (.cons ⟨_, rfl⟩ (.cons ⟨_, rfl⟩ (.cons ⟨_, rfl⟩ (.cons ⟨_, rfl⟩ (.cons ⟨_, rfl⟩ .nil)))))))))))) (.cons (.int _) (.cons (.int _) (.cons (.int _) (.cons (.int _) (.cons (.int _) (.cons (.int _) (.cons (.int _) (.cons (.int _) (.cons (.int _) (.cons (.int _) (.cons (.int _) (.cons (.int _) .nil)))))))))))))⟩, ⟨_, PySem.W.mg_of X G dq_DIGITS, ktabI_of dl_DIGITS ds_DIGITS (.cons (.cons (.cons (.cons (.cons .nil)))))⟩, ⟨_, ⟨PySem.W.mg_of X G ax0, ⟨⟨_, _, _, _, _, _, _, _, _, _, _, _, _, _, _, Lx0, by rfl⟩, sax0, ex0, tyx0, kx0⟩, (fun f hf => by simp at hf; subst hf; exact nbx0_0), ⟨gax0, ggx0, ex0, hx0⟩, exm_self ex0 icx0 tyx0 ssx0, ⟨_, _, ix0, tx0, FX0, BX0⟩⟩⟩, ⟨_, ⟨PySem.W.mg_of X G ax1, ⟨⟨_, _, _, _, _, _, _, _, _, _, _, _, _, _, _, Lx1, by rfl⟩, sax1, ex1, tyx1, kx1⟩, (fun f hf => by simp at hf; subst hf; exact nbx1_0), ⟨gax1, ggx1, ex1, hx1⟩, exm_self ex1 icx1 tyx1 ssx1, ⟨_, _, ix1, tx1, FX1, BX1⟩⟩⟩⟩
  exact ⟨_, fun s v => .of_eq rfl, fun base _ _ => ok_law_of T F22 law_true⟩
end K33
open PySem PySem.W PyProof.Rows
set_option maxRecDepth 100000 in
set_option maxHeartbeats 0 in
theorem PySem.Challenge.cw_truealmanac_k33_patterns_holds : PySem.Challenge.rw_truealmanac_k33_patterns.Holds := by
  w_on; o_law; k_head; (case hw => w_witness2)
  k_fill
  refine L2.walk_of (l := PySem.Challenge.rw_truealmanac_k33_patterns) (n := 63) (k := 8) (x := "script") (CX := fun _ => L2.CX0) (sp := fun w => Mi.spLaw _) rfl (by decide) rfl ⟨rfl, by decide, by decide⟩ (fun w h Y => PySem.W.kIn_of Y) ?F (fun _ _ a ns hl _ hS => ⟨a, ns, rfl, hS, hl, fun _ => rfl⟩) (fun _ _ _ _ _ h => h)
  case F =>
    intro w mg fa h KX G hmg
    refine' K33.all_mk KX G hmg ?a0 ?l0 ?c0 ?k0 ?a1 ?l1 ?c1 ?k1 ?a2 ?l2 ?c2 ?k2 ?a3 ?l3 ?c3 ?k3 ?a4 ?l4 ?c4 ?k4 ?a5 ?l5 ?c5 ?k5 ?a6 ?l6 ?c6 ?k6 ?a7 ?l7 ?c7 ?k7 ?a8 ?l8 ?c8 ?k8 ?a9 ?l9 ?c9 ?k9 ?a10 ?l10 ?c10 ?k10 ?a11 ?l11 ?c11 ?k11 ?a12 ?l12 ?c12 ?k12 ?a13 ?l13 ?c13 ?k13 ?a14 ?l14 ?c14 ?k14 ?a15 ?l15 ?c15 ?k15 ?a16 ?l16 ?c16 ?k16 ?a17 ?l17 ?c17 ?k17 ?a18 ?l18 ?c18 ?k18 ?a19 ?l19 ?c19 ?k19 ?a20 ?l20 ?c20 ?k20 ?a21 ?l21 ?c21 ?k21 ?a22 ?l22 ?c22 ?k22 ?cn0 ?cn1 ?z0 ?z1 ?z2 ?z3 ?z4 ?z5 ?z6 ?z7 ?z8 ?z9 ?z10 ?z11 ?z12 ?cq_MONTHS ?ch0 ?cq_LEAP_MONTHS ?ch13 ?dq_DIGITS ?dl_DIGITS ?ds_DIGITS ?ax0 ?Lx0 ?sax0 ?gax0 ?ggx0 ?nbx0_0 ?ix0 ?tx0 ?lx0 ?cx0 ?kfx0 ?kx0 ?ex0 ?tyx0 ?hx0 ?icx0 ?ssx0 ?ax1 ?Lx1 ?sax1 ?gax1 ?ggx1 ?nbx1_0 ?ix1 ?tx1 ?lx1 ?cx1 ?kfx1 ?kx1 ?ex1 ?tyx1 ?hx1 ?icx1 ?ssx1
    (case a0 => k_is); (case l0 => k_is); (case c0 => k_is); (case k0 => k_is); (case a1 => k_is); (case l1 => k_is)
    (case c1 => k_is); (case k1 => k_is); (case a2 => k_is); (case l2 => k_is); (case c2 => k_is); (case k2 => k_is)
    (case a3 => k_is); (case l3 => k_is); (case c3 => k_is); (case k3 => k_is); (case a4 => k_is); (case l4 => k_is)
    (case c4 => k_is); (case k4 => k_is); (case a5 => k_is); (case l5 => k_is); (case c5 => k_is); (case k5 => k_is)
    (case a6 => k_is); (case l6 => k_is); (case c6 => k_is); (case k6 => k_is); (case a7 => k_is); (case l7 => k_is)
    (case c7 => k_is); (case k7 => k_is); (case a8 => k_is); (case l8 => k_is); (case c8 => k_is); (case k8 => k_is)
    (case a9 => k_is); (case l9 => k_is); (case c9 => k_is); (case k9 => k_is); (case a10 => k_is); (case l10 => k_is)
    (case c10 => k_is); (case k10 => k_is); (case a11 => k_is); (case l11 => k_is); (case c11 => k_is); (case k11 => k_is)
    (case a12 => k_is); (case l12 => k_is); (case c12 => k_is); (case k12 => k_is); (case a13 => k_is); (case l13 => k_is)
    (case c13 => k_is); (case k13 => k_is); (case a14 => k_is); (case l14 => k_is); (case c14 => k_is); (case k14 => k_is)
    (case a15 => k_is); (case l15 => k_is); (case c15 => k_is); (case k15 => k_is); (case a16 => k_is); (case l16 => k_is)
    (case c16 => k_is); (case k16 => k_is); (case a17 => k_is); (case l17 => k_is); (case c17 => k_is); (case k17 => k_is)
    (case a18 => k_is); (case l18 => k_is); (case c18 => k_is); (case k18 => k_is); (case a19 => k_is); (case l19 => k_is)
    (case c19 => k_is); (case k19 => k_is); (case a20 => k_is); (case l20 => k_is); (case c20 => k_is); (case k20 => k_is)
    (case a21 => k_is); (case l21 => k_is); (case c21 => k_is); (case k21 => k_is); (case a22 => k_is); (case l22 => k_is)
    (case c22 => k_is); (case k22 => k_is); (case cn0 => k_is); (case cn1 => k_is); (case z0 => k_is); (case z1 => k_is)
    (case z2 => k_is); (case z3 => k_is); (case z4 => k_is); (case z5 => k_is); (case z6 => k_is); (case z7 => k_is)
    (case z8 => k_is); (case z9 => k_is); (case z10 => k_is); (case z11 => k_is); (case z12 => k_is); (case cq_MONTHS => k_is)
    (case ch0 => k_is); (case cq_LEAP_MONTHS => k_is); (case ch13 => k_is); (case dq_DIGITS => k_is); (case dl_DIGITS => k_is); (case ds_DIGITS => first | rfl | decide | k_is)
    (case ax0 => k_is); (case Lx0 => k_is); (case sax0 => k_is); (case gax0 => k_is); (case ggx0 => k_is); (case nbx0_0 => k_is)
    (case ix0 => k_is); (case tx0 => k_is); (case lx0 => k_is); (case cx0 => k_is); (case kfx0 => k_is); (case kx0 => k_is)
    (case ex0 => k_is); (case tyx0 => k_is); (case hx0 => k_is); (case icx0 => k_is); (case ssx0 => first | rfl | k_is); (case ax1 => k_is)
    (case Lx1 => k_is); (case sax1 => k_is); (case gax1 => k_is); (case ggx1 => k_is); (case nbx1_0 => k_is); (case ix1 => k_is)
    (case tx1 => k_is); (case lx1 => k_is); (case cx1 => k_is); (case kfx1 => k_is); (case kx1 => k_is); (case ex1 => k_is)
    (case tyx1 => k_is); (case hx1 => k_is); (case icx1 => k_is); (case ssx1 => first | rfl | k_is)

