import PyProof.Rows.All
import Wide.All
import OpenK.AllK
import Wide.FinOn
import HandS.ForMost
import HandS.Gcd
import HandS.Wide
import HandS.IsInst
import HandS.Steps
import HandS.SortKw
import HandS.Style
import HandS.Star
import HandS.SetFor
import HandS.TupAny
import PyProof.SetRoads
import PyProof.Rows.SetFrom
import KE.DataMinMax
import HandS.Evl
import HandS.Walk
import HandS.ForExc
import HandS.ExcIs
import HandS.RaiseMore
import HandS.Codes
import HandS.Flt
import HandS.FStr
import KE.GoesEnum
import PyProof.Rows.MatchSeqLen
import Flt.RightSqrt
import HandS.Strs
import HandS.Property
import HandS.More
import HandS.GenList
import PyProof.GenObj
import HandS.StrMore
import HandS.TryOnly
import HandS.TryMany
import KE.KUnpackStar
import KE.KTryMore
import HandS.HotCalls
import PySem.Challenge.RW_brimful_k46_programs_that_are_not_judged
set_option Elab.async false
set_option linter.all false
set_option maxRecDepth 100000
set_option maxHeartbeats 4000000

namespace Br
open PySem PySem.Spec PyProof.Rows L2

/-! ### readings with names -/
def rLen (K : PySem.W.Frag) : List V → Hp → VK → Prop := fun xs H Q => ∃ p ys, xs = [.ref p] ∧ (SqL K H p ys ∨ SqT K H p ys) ∧ Q (.int ys.length) H
theorem cr_len {X : Cx} : CallR X (.builtin "len") (rLen X.K) := call_len_seq
def rInt1 : List V → Hp → VK → Prop := fun xs H Q => (∃ i, xs = [.int i] ∧ Q (.int i) H) ∨ ∃ k, xs = [.bl k] ∧ Q (.int (if k then 1 else 0)) H
theorem cr_int1 {X : Cx} : CallR X (.type "int") rInt1 := call_int1
def rMin2 : List V → Hp → VK → Prop := fun xs H Q => ∃ i j, xs = [.int i, .int j] ∧ Q (.int (if j < i then j else i)) H
theorem cr_min2 {X : Cx} (hc : X.calm = true) : CallR X (.builtin "min") rMin2 := call_min2 hc
def rMax2 : List V → Hp → VK → Prop := fun xs H Q => ∃ i j, xs = [.int i, .int j] ∧ Q (.int (if j > i then j else i)) H
theorem cr_max2 {X : Cx} (hc : X.calm = true) : CallR X (.builtin "max") rMax2 := call_max2 hc
def rListOf (K : PySem.W.Frag) : List V → Hp → VK → Prop := fun xs H Q => ∃ p ys, xs = [.ref p] ∧ (SqL K H p ys ∨ SqT K H p ys) ∧ ∀ l, H l = none → Q (.ref l) (upd H l (.lst ys))
theorem cr_list_of {X : Cx} : CallR X (.type "list") (rListOf X.K) := call_list_of
def rTupOf (K : PySem.W.Frag) : List V → Hp → VK → Prop := fun xs H Q => ∃ p ys, xs = [.ref p] ∧ ((SqL K H p ys ∧ ∀ l, H l = none → Q (.ref l) (upd H l (.tup ys))) ∨ (SqT K H p ys ∧ Q (.ref p) H))
theorem cr_tup_of {X : Cx} : CallR X (.type "tuple") (rTupOf X.K) := call_tuple_of
def cr_isqrt_r : List V → Hp → VK → Prop := fun vs H Q => ∃ i : Int, vs = [.int i] ∧ 0 ≤ i ∧ i < 2 ^ 64 ∧ Q (.int ((Float64.isqrt i.toNat : Nat) : Int)) H
/-! ### steps of a reading -/
section
variable {σ : L2.St} {H : Hp} {D : Ends} {Q : VK} {QT : Bool → Hp → Prop} {QA : List V → Hp → Prop} {K : PySem.W.Frag}
theorem x_seq {a u : TS} (h : a ⟨u D, D.rt, D.bk, D.ct⟩ σ H) : tSeq a u D σ H := h
theorem x_cut {a u : TS} (M : L2.St → Hp → Prop) (h : a ⟨M, D.rt, D.bk, D.ct⟩ σ H) (k : ∀ σ' H', M σ' H' → u D σ' H') : Evl.tCut a u D σ H := ⟨M, h, k⟩
theorem x_next (h : D.nx σ H) : tNext D σ H := h
theorem x_set {te : TE} {i : Nat} (h : te σ H fun x H1 => D.nx (σ.set i (some x)) H1) : tAsg te (gName i) D σ H := h
theorem x_asg {te : TE} {g : TG} (h : te σ H fun x H1 => g x σ H1 D.nx) : tAsg te g D σ H := h
/-- what a field's reading asks of the object -/
def FldR (K : PySem.W.Frag) (f : Str) (x : V) (H : Hp) (Q : VK) : Prop := ∃ a C dx fs v, x = .ref a ∧ H a = some (.ins C dx fs) ∧ Cls K C ∧ NoAttr K C f ∧ fs.lookup f = some v ∧ Q v H
theorem x_fld {ta : TE} {f : Str} (h : ta σ H fun x H1 => FldR K f x H1 Q) : tFld K ta f σ H Q := h
theorem x_fldR {a C dx : Addr} {fs : List (Str × V)} {f : Str} {v : V} (h : H a = some (.ins C dx fs)) (c : Cls K C) (n : NoAttr K C f) (l : fs.lookup f = some v) (q : Q v H) : FldR K f (.ref a) H Q := ⟨a, C, dx, fs, v, rfl, h, c, n, l, q⟩
/-- what storing a field asks -/
def FldS (K : PySem.W.Frag) (f : Str) (y x : V) (H : Hp) (R : Hp → Prop) : Prop := ∃ a C dx fs, x = .ref a ∧ H a = some (.ins C dx fs) ∧ Cls K C ∧ NoAttr K C f ∧ fs.length < 1000 ∧ R (upd H a (.ins C dx (putF f y fs)))
theorem x_fldS {ta tv : TE} {f : Str} (h : tv σ H fun y H1 => ta σ H1 fun x H2 => FldS K f y x H2 fun H3 => D.nx σ H3) : sFld K ta tv f D σ H := h
theorem x_gName {i : Nat} {v : V} {R : L2.St → Hp → Prop} (h : R (σ.set i (some v)) H) : gName i v σ H R := h
theorem x_par {i j : Nat} {ta tb : TE} (h : ta σ H fun x H1 => tb σ H1 fun y H2 => D.nx ((σ.set i (some x)).set j (some y)) H2) : tPar i j (tCons ta (tCons tb tNil)) D σ H :=
  (congrArg (fun (f : (V → Hp → Prop)) => ta σ H f) (funext fun x => funext fun H1 => congrArg (fun (f : (V → Hp → Prop)) => tb σ H1 f) (funext fun y => funext fun H2 => propext
    ⟨fun h => ⟨x, y, rfl, h⟩, fun ⟨v, w, e, h⟩ => by cases e; exact h⟩))).mp h
theorem x_ret {te : TE} (h : te σ H D.rt) : tRet te D σ H := h
theorem x_retN (h : D.rt .non H) : tRetN D σ H := h
theorem x_drop {te : TE} (h : te σ H fun _ H1 => D.nx σ H1) : tDrop te D σ H := h
theorem x_if {c : TT} {t u : TS} (h : c σ H fun b H1 => if b = true then t D σ H1 else u D σ H1) : tIfS c t u D σ H := h
theorem x_brk (h : D.bk σ H) : tBreak D σ H := h
theorem x_cont (h : D.ct σ H) : tCont D σ H := h
theorem x_var {i : Nat} {v : V} (h : σ[i]? = some (some v)) (q : Q v H) : tVar i σ H Q := ⟨v, h, q⟩
theorem x_c {v : V} (q : Q v H) : tC v σ H Q := q
theorem x_op {r : R2} {ta tb : TE} (h : ta σ H fun x H1 => tb σ H1 fun y H2 => r x y H2 Q) : tOp r ta tb σ H Q := h
theorem x_un {r : V → Hp → VK → Prop} {ta : TE} (h : ta σ H fun x H1 => r x H1 Q) : tUn r ta σ H Q := h
theorem x_I0 {g : Int → Int → V} {i j : Int} (q : Q (g i j) H) : rI0 g (.int i) (.int j) H Q := ⟨i, j, rfl, rfl, q⟩
theorem x_I {C : Int → Int → Prop} {g : Int → Int → V} {i j : Int} (c : C i j) (q : Q (g i j) H) : rI C g (.int i) (.int j) H Q := ⟨i, j, rfl, rfl, c, q⟩
theorem x_U {g : Int → V} {i : Int} (q : Q (g i) H) : rU g (.int i) H Q := ⟨i, rfl, q⟩
theorem v_int {i j : Int} : decide (V.int i = V.int j) = decide (i = j) := decide_eq_decide.mpr ⟨fun h => V.int.inj h, fun h => h ▸ rfl⟩
theorem x_EqI {i j : Int} (q : Q (.bl (decide (i = j))) H) : rEq (.int i) (.int j) H Q := ⟨rfl, v_int ▸ q⟩
theorem x_NeI {i j : Int} (q : Q (.bl (!decide (i = j))) H) : rNe (.int i) (.int j) H Q := ⟨rfl, by rw [v_int]; exact q⟩
theorem x_EqB {i j : Bool} (q : Q (.bl (decide (i = j))) H) : rEq (.bl i) (.bl j) H Q := ⟨rfl, by
  have e : decide (V.bl i = V.bl j) = decide (i = j) := decide_eq_decide.mpr ⟨fun h => V.bl.inj h, fun h => h ▸ rfl⟩
  rw [e]; exact q⟩
theorem x_Eq {x y : V} (s : scal x y = true) (q : Q (.bl (decide (x = y))) H) : rEq x y H Q := ⟨s, q⟩
theorem x_Ne {x y : V} (s : scal x y = true) (q : Q (.bl (!decide (x = y))) H) : rNe x y H Q := ⟨s, q⟩
theorem x_isN {x : V} (q : Q (.bl (decide (x = .non))) H) : (fun (x y : V) (H : Hp) (Q : VK) => y = V.non ∧ Q (.bl (decide (x = .non))) H) x .non H Q := ⟨rfl, q⟩
theorem x_ifE {t : TT} {ta tb : TE} (h : t σ H fun c H1 => if c = true then ta σ H1 Q else tb σ H1 Q) : tIf t ta tb σ H Q := h
theorem x_test {te : TE} {b : Unit} (h : te σ H fun x H1 => ∃ k, x = .bl k ∧ QT k H1) : tTest te σ H QT := h
theorem x_tB {te : TE} (h : te σ H fun x H1 => ∃ k, x = .bl k ∧ QT k H1) : tB te σ H QT := h
theorem x_bl {k : Bool} (q : QT k H) : ∃ k', V.bl k = .bl k' ∧ QT k' H := ⟨k, rfl, q⟩
theorem x_and {t u : TT} (h : t σ H fun c H1 => if c = true then u σ H1 QT else QT false H1) : tAnd t u σ H QT := h
theorem x_or {t u : TT} (h : t σ H fun c H1 => if c = true then QT true H1 else u σ H1 QT) : tOr t u σ H QT := h
theorem x_not {t : TT} (h : t σ H fun c H1 => QT (!c) H1) : tNot t σ H QT := h
theorem x_andV {ta tb : TE} (h : ta σ H fun x H1 => ∃ c, x = .bl c ∧ if c = true then tb σ H1 Q else Q (.bl false) H1) : tAndV ta tb σ H Q := h
theorem x_orV {ta tb : TE} (h : ta σ H fun x H1 => ∃ c, x = .bl c ∧ if c = true then Q (.bl true) H1 else tb σ H1 Q) : tOrV ta tb σ H Q := h
theorem x_notV {ta : TE} (h : ta σ H fun x H1 => ∃ c, x = .bl c ∧ Q (.bl (!c)) H1) : tNotV ta σ H Q := h
theorem x_blP {k : Bool} {P : Bool → Prop} (q : P k) : ∃ k', V.bl k = .bl k' ∧ P k' := ⟨k, rfl, q⟩
theorem x_nil (q : QA [] H) : tNil σ H QA := q
theorem x_cons {ta : TE} {tr : TA} (h : ta σ H fun x H1 => tr σ H1 fun xs H2 => QA (x :: xs) H2) : tCons ta tr σ H QA := h
theorem x_call {sp : Sp} {dvs : List V} {E : XK} {t : TA} (h : t σ H fun vs H1 => sp (vs ++ dvs) H1 Q E) : tCall sp dvs E t σ H Q := h
theorem x_CB {r : List V → Hp → VK → Prop} {t : TA} (h : t σ H fun vs H1 => r vs H1 Q) : tCB r t σ H Q := h
theorem x_BM {T : String} {r : V → List V → Hp → VK → Prop} {to : TE} {t : TA} (h : to σ H fun x H1 => tyV K T x H1 ∧ t σ H1 fun xs H2 => r x xs H2 Q) : tBM K T r to t σ H Q := h
theorem x_tup {t : TA} (h : t σ H fun xs H1 => xs.length ≤ sizeLine ∧ ∀ p, H1 p = none → Q (.ref p) (upd H1 p (.tup xs))) : tTup t σ H Q := h
theorem x_lst {t : TA} (h : t σ H fun xs H1 => xs.length ≤ sizeLine ∧ ∀ p, H1 p = none → Q (.ref p) (upd H1 p (.lst xs))) : tLst t σ H Q := h
theorem x_chain {r r' : R2} {ta tb tc : TE} (h : ta σ H fun x H1 => tb σ H1 fun y H2 => r x y H2 fun z H3 => ∃ k, z = .bl k ∧
  (if k = true then tc σ H3 fun w' H4 => r' y w' H4 Q else Q (.bl false) H3)) : tChain r r' ta tb tc σ H Q := h
theorem x_isi {x : V} {T S : String} {b : Bool} (ty : TyX K H x (.type S)) (h : kitB S T = some b) (q : Q (.bl b) H) : rIsi K [x, .ty T] H Q := ⟨x, .ty T, .type S, .type T, b, rfl, .ty T, ty, kit_ty h, q⟩
theorem x_iN {x : V} (q : Q (.bl (decide (x = .non))) H) : rIsN x .non H Q := ⟨rfl, q⟩
theorem x_nN {x : V} (q : Q (.bl (!decide (x = .non))) H) : rNotN x .non H Q := ⟨rfl, q⟩
theorem x_int1 {i : Int} (q : Q (.int i) H) : rInt1 [.int i] H Q := .inl ⟨i, rfl, q⟩
theorem x_min2 {i j : Int} (q : Q (.int (if j < i then j else i)) H) : rMin2 [.int i, .int j] H Q := ⟨i, j, rfl, q⟩
theorem x_max2 {i j : Int} (q : Q (.int (if j > i then j else i)) H) : rMax2 [.int i, .int j] H Q := ⟨i, j, rfl, q⟩
theorem x_listL {p : Addr} {xs : List V} (hp : SqL K H p xs) (q : ∀ l, H l = none → Q (.ref l) (upd H l (.lst xs))) : rListOf K [.ref p] H Q := ⟨p, xs, rfl, .inl hp, q⟩
theorem x_tupL {p : Addr} {xs : List V} (hp : SqL K H p xs) (q : ∀ l, H l = none → Q (.ref l) (upd H l (.tup xs))) : rTupOf K [.ref p] H Q := ⟨p, xs, rfl, .inl ⟨hp, q⟩⟩
theorem x_ite {p : Prop} [Decidable p] {A B : Prop} (h1 : p → A) (h2 : ¬ p → B) : if decide p = true then A else B := by
  by_cases h : p
  · rw [if_pos (decide_eq_true h)]; exact h1 h
  · rw [if_neg (by rw [decide_eq_false h]; exact Bool.false_ne_true)]; exact h2 h
theorem x_iteN {p : Prop} [Decidable p] {A B : Prop} (h1 : ¬ p → A) (h2 : p → B) : if (!decide p) = true then A else B := by
  by_cases h : p
  · rw [if_neg (by rw [decide_eq_true h]; decide)]; exact h2 h
  · rw [if_pos (by rw [decide_eq_false h]; rfl)]; exact h1 h
theorem x_iteB {b : Bool} {A B : Prop} (h1 : b = true → A) (h2 : b = false → B) : if b = true then A else B := by
  cases b with
  | true => rw [if_pos rfl]; exact h1 rfl
  | false => rw [if_neg Bool.false_ne_true]; exact h2 rfl
theorem x_iteBN {b : Bool} {A B : Prop} (h1 : b = false → A) (h2 : b = true → B) : if (!b) = true then A else B := by
  cases b with
  | true => rw [if_neg (by decide)]; exact h2 rfl
  | false => rw [if_pos (by decide)]; exact h1 rfl
theorem x_subL {i : Int} {x : V} {xs : List V} {p : Addr} {k : Nat} {q : Hp → Prop} (hp : H p = some (.lst xs)) (hk : ixN xs.length i = some k) (h : q (upd H p (.lst (xs.set k x)))) : rSetL (.ref p) (.int i) x H q :=
  ⟨p, xs, i, k, rfl, rfl, hp, hk, h⟩
theorem x_gSub {to ti : TE} {t : TSet} {v : V} {q : L2.St → Hp → Prop} (h : to σ H fun o H1 => ti σ H1 fun i H2 => t o i v H2 fun H3 => q σ H3) : gSub to ti t v σ H q := h
theorem x_for {wi : TI} {g : TG} {tb : TS} (h : wi σ H fun J H1 => ∃ W : Nat → Nat → L2.St → Hp → Prop, (∃ m, W 0 m σ H1) ∧ ∀ i m σ H, W i m σ H →
  (J.stop i H ∧ D.nx σ H) ∨ (J.go i H ∧ ∃ N : L2.St → Hp → Prop, (∀ σ' H', N σ' H' → ∃ m', m' < m ∧ W (i + 1) m' σ' H') ∧ ∀ x H', J.yld i H x H' → g x σ H' fun σ2 H2 => tb { D with nx := N, ct := N, bk := D.nx } σ2 H2)) : tFor wi g tb D σ H := h
theorem x_ixL {xs : List V} {i : Int} {v : V} {p : Addr} (hp : SqL K H p xs) (hi : atI xs i = some v) (q : Q v H) : rIxL K (.ref p) (.int i) H Q := ⟨p, xs, i, v, rfl, rfl, hp, hi, q⟩
theorem x_ixT {xs : List V} {i : Int} {v : V} {p : Addr} (hp : SqT K H p xs) (hi : atI xs i = some v) (q : Q v H) : rIxT K (.ref p) (.int i) H Q := ⟨p, xs, i, v, rfl, rfl, hp, hi, q⟩
/-- over a range from nought, of at most so many turns; the target a name -/
theorem x_forR1 {ta : TE} {j : Nat} {tb : TS} (n : Int) (P : Nat → L2.St → Hp → Prop) (hn : ∀ R : V → Hp → Prop, R (.int n) H → ta σ H R) (h1 : -(2 ^ 62) ≤ n) (h2 : n < 2 ^ 62) (h0 : P 0 σ H)
    (hs : ∀ (i : Nat) σ' H', (i : Int) < n → P i σ' H' → tb ⟨P (i + 1), D.rt, D.nx, P (i + 1)⟩ (σ'.set j (some (.int (i : Int)))) H') (hd : ∀ σ' H', P n.toNat σ' H' → D.nx σ' H') : tFor (iRng1 (tCons ta tNil)) (gName j) tb D σ H := by
  refine hn _ ⟨n, rfl, h1, h2, ?_⟩
  refine for_range (lo := 0) P h0 (fun i σ' H' hi p => ?_) hd
  have e : (0 : Int) + (i : Int) = (i : Int) := Int.zero_add _
  rw [e]
  exact hs i σ' H' (by omega) p
theorem x_forR2 {ta tc : TE} {j : Nat} {tb : TS} (lo n : Int) (P : Nat → L2.St → Hp → Prop) (hn : ∀ R : V → Hp → Prop, R (.int lo) H → ta σ H R) (hn2 : ∀ R : V → Hp → Prop, R (.int n) H → tc σ H R) (h1 : -(2 ^ 62) ≤ lo) (h2 : lo < 2 ^ 62) (h3 : -(2 ^ 62) ≤ n) (h4 : n < 2 ^ 62) (h0 : P 0 σ H)
    (hs : ∀ (i : Nat) σ' H', lo + (i : Int) < n → P i σ' H' → tb ⟨P (i + 1), D.rt, D.nx, P (i + 1)⟩ (σ'.set j (some (.int (lo + (i : Int))))) H') (hd : ∀ σ' H', P (n - lo).toNat σ' H' → D.nx σ' H') : tFor (iRng2 (tCons ta (tCons tc tNil))) (gName j) tb D σ H := by
  refine hn _ (hn2 _ ⟨lo, n, rfl, ⟨h1, h2, h3, h4⟩, ?_⟩)
  refine for_range (lo := lo) P h0 (fun i σ' H' hi p => ?_) hd
  exact hs i σ' H' (by omega) p
theorem rgC_up {i j c : Int} (hc : 0 < c) (hc2 : c < 1000000) (ha : 0 ≤ i) (ha' : i < 2 ^ 60) (hb : 0 ≤ j) (hb' : j < 2 ^ 60) : RgC i j c ((if i < j then (j - i - 1) / c + 1 else 0 : Int)).toNat := by
  have hd : 0 ≤ (j - i - 1) / c ∨ ¬ i < j := by
    by_cases h : i < j
    · exact .inl (Int.ediv_nonneg (by omega) (by omega))
    · exact .inr h
  have hd2 : i < j → (j - i - 1) / c * c ≤ j - i - 1 := fun _ => Int.ediv_mul_le _ (by omega)
  have hd3 : i < j → (j - i - 1) / c ≤ j - i - 1 := fun h => by
    have h0 : 0 ≤ (j - i - 1) / c := Int.ediv_nonneg (by omega) (by omega)
    have := hd2 h
    have h1 : (j - i - 1) / c * 1 ≤ (j - i - 1) / c * c := Int.mul_le_mul_of_nonneg_left (by omega) h0
    omega
  refine ⟨by omega, by omega, ?_, ?_⟩
  · unfold Builtin.Range.small Builtin.Range.rangeSize
    simp only [Builtin.Range.rangeFitsLong, Bool.and_eq_true, Bool.or_eq_true, decide_eq_true_eq, beq_iff_eq, show (c > 0) from hc, if_true]
    split
    · rename_i h
      have := hd3 h
      have h0 : 0 ≤ (j - i - 1) / c := Int.ediv_nonneg (by omega) (by omega)
      have := hd2 h
      generalize (j - i - 1) / c = q at *
      have e : (q + 1) * c = q * c + c := by rw [Int.add_mul, Int.one_mul]
      have e2 : (q + 1 - 1) * c = q * c := by rw [Int.add_sub_cancel]
      refine ⟨?_, ?_⟩ <;> (try rw [e]) <;> (try rw [e2]) <;> omega
    · omega
  · unfold Builtin.Range.rangeSize
    rw [if_pos hc]
    split
    · rcases hd with h | h
      · omega
      · omega
    · rfl
theorem x_forR3 {ta tc te : TE} {j : Nat} {tb : TS} (lo n c : Int) (P : Nat → L2.St → Hp → Prop) (hn : ∀ R : V → Hp → Prop, R (.int lo) H → ta σ H R) (hn2 : ∀ R : V → Hp → Prop, R (.int n) H → tc σ H R) (hn3 : ∀ R : V → Hp → Prop, R (.int c) H → te σ H R) (hc : 0 < c) (hc2 : c < 1000000) (h1 : 0 ≤ lo) (h2 : lo < 2 ^ 60) (h3 : 0 ≤ n) (h4 : n < 2 ^ 60) (h0 : P 0 σ H)
    (hs : ∀ (i : Nat) σ' H', lo + (i : Int) * c < n → P i σ' H' → tb ⟨P (i + 1), D.rt, D.nx, P (i + 1)⟩ (σ'.set j (some (.int (lo + (i : Int) * c)))) H') (hd : ∀ (i : Nat) σ' H', n ≤ lo + (i : Int) * c → P i σ' H' → D.nx σ' H') : tFor (iRng3 (tCons ta (tCons tc (tCons te tNil)))) (gName j) tb D σ H := by
  refine hn _ (hn2 _ (hn3 _ ⟨lo, n, c, _, rfl, rgC_up hc hc2 h1 h2 h3 h4, ?_⟩))
  refine for_rangeC (lo := lo) P h0 (fun i σ' H' hi p => hs i σ' H' ?_ p) (fun σ' H' p => hd _ σ' H' ?_ p)
  · split at hi
    · have hq : (i : Int) ≤ (n - lo - 1) / c := by omega
      have h5 : (n - lo - 1) / c * c ≤ n - lo - 1 := Int.ediv_mul_le _ (by omega)
      have h6 : (i : Int) * c ≤ (n - lo - 1) / c * c := Int.mul_le_mul_of_nonneg_right hq (by omega)
      omega
    · omega
  · split
    · have h5 : n - lo - 1 < ((n - lo - 1) / c + 1) * c := Int.lt_ediv_add_one_mul_self _ hc
      have h0 : 0 ≤ (n - lo - 1) / c := Int.ediv_nonneg (by omega) (by omega)
      rw [show ((((n - lo - 1) / c + 1).toNat : Nat) : Int) = (n - lo - 1) / c + 1 by omega]
      omega
    · have : (((0 : Int).toNat : Nat) : Int) * c = 0 := by simp
      omega
theorem isq_spec {i : Int} (h0 : 0 ≤ i) : ∃ r : Int, ((Float64.isqrt i.toNat : Nat) : Int) = r ∧ 0 ≤ r ∧ r * r ≤ i ∧ i < (r + 1) * (r + 1) := by
  refine ⟨_, rfl, Int.natCast_nonneg _, ?_, ?_⟩
  · have := (PySem.Float64.isqrt_spec i.toNat).1
    have e : ((Float64.isqrt i.toNat * Float64.isqrt i.toNat : Nat) : Int) ≤ (i.toNat : Int) := Int.ofNat_le.mpr this
    rw [Int.natCast_mul] at e
    omega
  · have := (PySem.Float64.isqrt_spec i.toNat).2
    have e : (i.toNat : Int) < (((Float64.isqrt i.toNat + 1) * (Float64.isqrt i.toNat + 1) : Nat) : Int) := Int.ofNat_lt.mpr this
    rw [Int.natCast_mul, Int.natCast_add] at e
    have e2 : ((1 : Nat) : Int) = 1 := rfl
    rw [e2] at e
    omega
theorem x_isqrt0 {i r : Int} (h0 : 0 ≤ i) (h1 : i < 2 ^ 64) (e : ((Float64.isqrt i.toNat : Nat) : Int) = r) (q : Q (.int r) H) : cr_isqrt_r [.int i] H Q := ⟨i, rfl, h0, h1, by rw [e]; exact q⟩
theorem x_forL {ta : TE} {g : TG} {tb : TS} {p : Addr} (xs : List V) (P : Nat → L2.St → Hp → Prop) (hn : ∀ R : V → Hp → Prop, R (.ref p) H → ta σ H R) (hp : SqL K H p xs) (h0 : P 0 σ H) (hl : ∀ i σ' H', i ≤ xs.length → P i σ' H' → SqL K H' p xs)
    (hs : ∀ i x σ' H', xs[i]? = some x → P i σ' H' → g x σ' H' fun σ2 H2 => tb ⟨P (i + 1), D.rt, D.nx, P (i + 1)⟩ σ2 H2) (hd : ∀ σ' H', P xs.length σ' H' → D.nx σ' H') : tFor (iList K ta) g tb D σ H :=
  hn _ ⟨p, rfl, ⟨xs, hp⟩, for_list (xs := xs) P h0 hl hs hd⟩
theorem x_app {p : Addr} {xs : List V} {y : V} (hp : H p = some (.lst xs)) (hl : xs.length < 1000000) (q : Q .non (upd H p (.lst (xs ++ [y])))) : rAppend (.ref p) [y] H Q :=
  ⟨p, xs, y, rfl, rfl, hp, Nat.lt_of_lt_of_le hl (by decide), q⟩
theorem x_tyL {p : Addr} {xs : List V} {R : Prop} (hp : H p = some (.lst xs)) (h : R) : tyV K "list" (.ref p) H ∧ R := ⟨.inl ⟨rfl, _, .inl (.inl hp)⟩, h⟩
theorem x_len {p : Addr} {xs : List V} (hp : SqL K H p xs) (q : Q (.int (xs.length : Int)) H) : rLen K [.ref p] H Q := ⟨p, xs, rfl, .inl hp, q⟩
theorem x_lenT {p : Addr} {xs : List V} (hp : SqT K H p xs) (q : Q (.int (xs.length : Int)) H) : rLen K [.ref p] H Q := ⟨p, xs, rfl, .inr hp, q⟩
theorem x_cat {p q : Addr} {xs ys : List V} (hp : H p = some (.lst xs)) (hq : H q = some (.lst ys)) (hl : xs.length + ys.length ≤ 1000000) (k : ∀ r, H r = none → Q (.ref r) (upd H r (.lst (xs ++ ys)))) : rCat (.ref p) (.ref q) H Q :=
  ⟨p, q, xs, ys, rfl, rfl, hp, hq, Nat.le_trans hl (by decide), k⟩
/-- while: a word by a measure -/
theorem x_while {c : TT} {tb : TS} (W : Nat → L2.St → Hp → Prop) (m0 : Nat) (h0 : W m0 σ H)
    (hs : ∀ m σ' H', W m σ' H' → ∃ b : Bool, (∀ R : Bool → Hp → Prop, R b H' → c σ' H' R) ∧ (b = true → tb ⟨fun σ2 H2 => ∃ m', m' < m ∧ W m' σ2 H2, D.rt, D.nx, fun σ2 H2 => ∃ m', m' < m ∧ W m' σ2 H2⟩ σ' H') ∧ (b = false → D.nx σ' H')) : tWhile c tb D σ H :=
  ⟨W, ⟨m0, h0⟩, fun m σ' H' w => by
    obtain ⟨b, h, h1, h2⟩ := hs m σ' H' w
    refine h _ ?_
    cases b with
    | true => exact iteT ⟨_, fun _ _ z => z, h1 rfl⟩
    | false => exact iteF (h2 rfl)⟩
theorem x_lcR1 {ta : TE} {j : Nat} {te : TE} {vs : List Nat} (n : Int) (P : Addr → Nat → Hp → Prop) (hn : ∀ R : V → Hp → Prop, R (.int n) H → ta σ H R) (h1 : -(2 ^ 62) ≤ n) (h2 : n < 2 ^ 62) (h0 : ∀ p, H p = none → P p 0 (upd H p (.lst [])))
    (hw : ∀ x, wipe ((wipe σ vs).set j (some x)) vs = wipe σ vs)
    (hs : ∀ p (i : Nat) H', H p = none → (i : Int) < n → P p i H' → te ((wipe σ vs).set j (some (.int (i : Int)))) H' fun y H4 => ∃ acc, H4 p = some (.lst acc) ∧ acc.length < sizeLine ∧ P p (i + 1) (upd H4 p (.lst (acc ++ [y]))))
    (hd : ∀ p H', H p = none → P p n.toNat H' → Q (.ref p) H') : tLc (iRng1 (tCons ta tNil)) (gName j) tYes te vs σ H Q := by
  refine hn _ ⟨n, rfl, h1, h2, fun p hp => ?_⟩
  refine lc_range (lo := 0) (Qd := fun H' => Q (.ref p) H') (P p) (h0 p hp) (fun i H' hi q => ?_) fun H' q => hd p H' hp q
  have e : (0 : Int) + (i : Int) = (i : Int) := Int.zero_add _
  rw [e]
  refine ⟨hw _, ?_⟩
  unfold tYes
  exact iteT (hs p i H' hp (by omega) q)
theorem x_lcL {ta : TE} {j : Nat} {te : TE} {vs : List Nat} {a : Addr} (xs : List V) (P : Addr → Nat → Hp → Prop) (hn : ∀ R : V → Hp → Prop, R (.ref a) H → ta σ H R) (ha : SqL K H a xs) (h0 : ∀ p, H p = none → P p 0 (upd H p (.lst [])))
    (hl : ∀ p i H', H p = none → i ≤ xs.length → P p i H' → SqL K H' a xs) (hw : ∀ x, wipe ((wipe σ vs).set j (some x)) vs = wipe σ vs)
    (hs : ∀ p (i : Nat) x H', H p = none → xs[i]? = some x → P p i H' → te ((wipe σ vs).set j (some x)) H' fun y H4 => ∃ acc, H4 p = some (.lst acc) ∧ acc.length < sizeLine ∧ P p (i + 1) (upd H4 p (.lst (acc ++ [y]))))
    (hd : ∀ p H', H p = none → P p xs.length H' → Q (.ref p) H') : tLc (iList K ta) (gName j) tYes te vs σ H Q := by
  refine hn _ ⟨a, rfl, ⟨xs, ha⟩, fun p hp => ?_⟩
  refine lc_list (xs := xs) (Qd := fun H' => Q (.ref p) H') (P p) (h0 p hp) (fun i H' hi q => hl p i H' hp hi q) (fun i x H' hi q => ?_) fun H' q => hd p H' hp q
  refine ⟨hw _, ?_⟩
  unfold tYes
  exact iteT (hs p i x H' hp hi q)
end
theorem x_gTup2 {K : PySem.W.Frag} {σ : L2.St} {H : Hp} {p : Addr} {x y : V} {i j : Nat} {R : L2.St → Hp → Prop} (hp : SqT K H p [x, y]) (h : R ((σ.set i (some x)).set j (some y)) H) : gTup K 2 (gCons (gName i) (gCons (gName j) gNil)) (.ref p) σ H R :=
  ⟨p, [x, y], rfl, hp, rfl, x, [y], rfl, y, [], rfl, rfl, h⟩
theorem sq_of {K : PySem.W.Frag} {H : Hp} {a : Addr} {xs : List V} (h : H a = some (.lst xs)) : SqL K H a xs := .inl (.inl h)
theorem st_of {K : PySem.W.Frag} {H : Hp} {a : Addr} {xs : List V} (h : H a = some (.tup xs)) : SqT K H a xs := .inl (.inl h)
theorem mul_r {i j : Int} (h1 : -(2 ^ 64) < j) (h2 : j < 2 ^ 64) : CMul i j := .inr ⟨h1, h2⟩
theorem mul_l {i j : Int} (h1 : -(2 ^ 64) < i) (h2 : i < 2 ^ 64) : CMul i j := .inl ⟨h1, h2⟩
theorem cr_isqrt {X : Cx} : CallR X (.builtin "math.isqrt") cr_isqrt_r := by
  intro pins s σ H vs us Q I r h
  obtain ⟨i, rfl, h0, h1, q⟩ := h
  cases r with
  | cons r1 rr =>
    cases rr
    obtain ⟨t, rfl⟩ := r1
    exact PySem.W.mg_isqrt h0 h1 ⟨.int _, H, I.tok _, ⟨_, rfl⟩, q⟩
/-- all but what stands at d is as it was -/
def Keep (d : Addr) (H H' : Hp) : Prop := ∀ b o, H b = some o → b ≠ d → H' b = some o
theorem Keep.refl (d : Addr) (H : Hp) : Keep d H H := fun _ _ h _ => h
theorem Keep.trans {d : Addr} {H H1 H2 : Hp} (a : Keep d H H1) (b : Keep d H1 H2) : Keep d H H2 := fun c o h n => b c o (a c o h n) n
theorem seqT {K : PySem.W.Frag} {H H' : Hp} {a : Addr} {xs : List V} (e : Same H H') (h : SqT K H a xs) : SqT K H' a xs := by
  rcases h with (h | ⟨o, h⟩) | h
  · exact .inl (.inl (e _ _ h))
  · exact .inl (.inr ⟨o, e _ _ h⟩)
  · exact .inr h
theorem sfree {H H' : Hp} (e : Same H H') {p : Addr} (h : H' p = none) : H p = none := e.free h
theorem sput {H H' : Hp} {p : Addr} {o : HO} (s : Same H H') (h : H p = none) : Same H (upd H' p o) := fun b x e => by
  rw [upd_ne (ne_of_none e h)]
  exact s b x e
theorem Same.tr {H H1 H2 : Hp} (a : Same H H1) (b : Same H1 H2) : Same H H2 := fun c o h => b c o (a c o h)
theorem Same.keep {d : Addr} {H H' : Hp} (a : Same H H') : Keep d H H' := fun c o h _ => a c o h
theorem same_upd {H : Hp} {p : Addr} {o : HO} (h : H p = none) : Same H (upd H p o) := fun b x e => by
  rw [upd_ne (ne_of_none e h)]
  exact e
theorem keep_upd {H : Hp} {p : Addr} {o : HO} : Keep p H (upd H p o) := fun b x e n => by
  rw [upd_ne n]
  exact e
/-- what is new may change -/
theorem Same.put {H H' : Hp} {p : Addr} {o : HO} (s : Same H H') (h : H p = none) : Same H (upd H' p o) := fun b x e => by
  rw [upd_ne (ne_of_none e h)]
  exact s b x e
theorem Keep.put {d : Addr} {H H' : Hp} {p : Addr} {o : HO} (s : Keep d H H') (h : H p = none) : Keep d H (upd H' p o) := fun b x e n => by
  rw [upd_ne (ne_of_none e h)]
  exact s b x e n
theorem Keep.seq {K : PySem.W.Frag} {d : Addr} {H H' : Hp} {a : Addr} {xs : List V} (e : Keep d H H') (n : a ≠ d) (h : SqL K H a xs) : SqL K H' a xs := by
  rcases h with (h | ⟨o, h⟩) | h
  · exact .inl (.inl (e _ _ h n))
  · exact .inl (.inr ⟨o, e _ _ h n⟩)
  · exact .inr h
/-- ints within bounds -/
def Rg (lo hi : Int) (ns : List Int) : Prop := ∀ z, z ∈ ns → lo ≤ z ∧ z < hi
theorem Rg.nil {lo hi : Int} : Rg lo hi [] := fun _ h => absurd h (by simp)
theorem Rg.app {lo hi : Int} {xs ys : List Int} (a : Rg lo hi xs) (b : Rg lo hi ys) : Rg lo hi (xs ++ ys) := fun z h => (List.mem_append.mp h).elim (a z) (b z)
theorem Rg.one {lo hi x : Int} (h1 : lo ≤ x) (h2 : x < hi) : Rg lo hi [x] := fun z h => by
  have e : z = x := by simpa using h
  subst e
  exact ⟨h1, h2⟩
theorem Rg.snoc {lo hi x : Int} {xs : List Int} (a : Rg lo hi xs) (h1 : lo ≤ x) (h2 : x < hi) : Rg lo hi (xs ++ [x]) := a.app (.one h1 h2)
theorem Rg.get {lo hi x : Int} {xs : List Int} {i : Nat} (a : Rg lo hi xs) (h : xs[i]? = some x) : lo ≤ x ∧ x < hi := a x (List.mem_of_getElem? h)
theorem map_get {ns : List Int} {i : Nat} {y : V} (h : (ns.map V.int)[i]? = some y) : ∃ z, ns[i]? = some z ∧ y = .int z := by
  rw [List.getElem?_map] at h
  cases e : ns[i]? with
  | none => rw [e] at h; cases h
  | some z => rw [e] at h; exact ⟨z, rfl, (Option.some.inj h).symm⟩
theorem gcd_step {a b : Int} : Int.gcd b (a % b) = Int.gcd a b := by
  rw [Int.emod_def, Int.gcd_sub_mul_left_right, Int.gcd_comm]
theorem half_step {a b : Int} (hb : 0 < b) (h : b < a) : b * (a % b) * 2 ≤ a * b := by
  have h1 := Int.emod_lt_of_pos a hb
  have h0 := Int.emod_nonneg a (show b ≠ 0 by omega)
  have h2 : b * (a / b) + a % b = a := Int.mul_ediv_add_emod a b
  have h3 : 1 ≤ a / b := (Int.le_ediv_iff_mul_le hb).mpr (by omega)
  have h4 : b * 1 ≤ b * (a / b) := Int.mul_le_mul_of_nonneg_left h3 (by omega)
  have h5 : a % b * 2 ≤ a := by omega
  have h6 : a % b * 2 * b ≤ a * b := Int.mul_le_mul_of_nonneg_right h5 (by omega)
  have e : b * (a % b) * 2 = a % b * 2 * b := by
    rw [Int.mul_comm b, Int.mul_assoc, Int.mul_assoc, Int.mul_comm b 2]
  omega
/-- an item of a written list -/
theorem at_lt {xs : List V} {i : Int} (h0 : 0 ≤ i) (h1 : i < (xs.length : Int)) : ∃ v, atI xs i = some v ∧ v ∈ xs := by
  obtain ⟨j, rfl⟩ : ∃ j : Nat, i = (j : Int) := ⟨i.toNat, by omega⟩
  have hj : j < xs.length := by omega
  exact ⟨xs[j], atI_nat (List.getElem?_eq_getElem hj), List.getElem_mem hj⟩
theorem map_getR {as : List Addr} {i : Nat} {v : V} (h : (as.map V.ref)[i]? = some v) : ∃ b, as[i]? = some b ∧ v = .ref b := by
  rw [List.getElem?_map] at h
  cases e : as[i]? with
  | none => rw [e] at h; cases h
  | some b => rw [e] at h; exact ⟨b, rfl, (Option.some.inj h).symm⟩
theorem kput {d : Addr} {H H' : Hp} {p : Addr} {o : HO} (s : Keep d H H') (h : H p = none) : Keep d H (upd H' p o) := s.put h
theorem snoc_at {α : Type} {xs : List α} {y z : α} {i j : Nat} (hl : xs.length = i) (h : (xs ++ [y])[j]? = some z) : (j < i ∧ xs[j]? = some z) ∨ (j = i ∧ z = y) := by
  by_cases hj : j < xs.length
  · rw [List.getElem?_append_left hj] at h
    exact .inl ⟨by omega, h⟩
  · have hlt := (List.getElem?_eq_some_iff.mp h).1
    rw [List.length_append] at hlt
    have e : j = xs.length := by simp at hlt; omega
    subst e
    rw [List.getElem?_append_right (Nat.le_refl _), Nat.sub_self] at h
    exact .inr ⟨hl, (Option.some.inj h).symm⟩
theorem lt_line {n : Nat} (h : n < 1000000) : n < sizeLine := Nat.lt_of_lt_of_le h (by decide)
/-- what is fresh may change -/
theorem same_keep {H H1 H2 : Hp} {l : Addr} (hl : H l = none) (s : Same H H1) (k : Keep l H1 H2) : Same H H2 := fun b o e => k b o (s b o e) (ne_of_none e hl)
theorem ixN_nat {n i : Nat} (h : i < n) : ixN n (i : Int) = some i := by
  unfold ixN
  grind
theorem cast_lt {x : Int} {c : Nat} (h0 : 0 ≤ x) (h1 : x < c) : ∃ t : Nat, x = (t : Int) ∧ t < c := ⟨x.toNat, by omega, by omega⟩
section
variable {σ : L2.St} {H : Hp} {Q : VK} {R : Option Int → Hp → Prop}
theorem x_sl2 {r : V → Option Int → Option Int → Hp → VK → Prop} {te : TE} {tl th : TO} (h : te σ H fun x H1 => tl σ H1 fun l H2 => th σ H2 fun u H3 => r x l u H3 Q) : tSl r te tl th σ H Q := h
theorem x_part0 (h : R none H) : tNoPart σ H R := h
theorem x_part1 {te : TE} (h : te σ H fun x H1 => ∃ i, x = .int i ∧ R (some i) H1) : tPart te σ H R := h
theorem x_cutL {K : PySem.W.Frag} {p : Addr} {xs : List V} {lo hi : Option Int} (hp : SqL K H p xs) (q : ∀ r, H r = none → Q (.ref r) (upd H r (.lst (cutV xs lo hi)))) : rSlL K (.ref p) lo hi H Q := ⟨p, xs, rfl, hp, q⟩
end
end Br

/-! ### Fermat's little theorem, by the products of the rests -/
namespace Br.F
def noDiv (p : Nat) (n : Nat) : Bool := Nat.rec true (fun k ih => (p % (k + 2) != 0) && ih) n
theorem noDiv_at {p : Nat} : ∀ {n : Nat}, noDiv p n = true → ∀ d, 2 ≤ d → d < n + 2 → ¬ d ∣ p
  | 0, _, d, h1, h2, _ => by omega
  | n + 1, h, d, h1, h2, hd => by
    have h' : ((p % (n + 2) != 0) && noDiv p n) = true := h
    rw [Bool.and_eq_true] at h'
    by_cases e : d < n + 2
    · exact noDiv_at h'.2 d h1 e hd
    · have e2 : d = n + 2 := by omega
      subst e2
      have := Nat.mod_eq_zero_of_dvd hd
      simp [this] at h'
def IsPrime (p : Nat) : Prop := 2 ≤ p ∧ ∀ d, d ∣ p → d = 1 ∨ d = p
theorem prime_of {p k : Nat} (h2 : 2 ≤ p) (hk : p < (k + 2) * (k + 2)) (h : noDiv p k = true) : IsPrime p := by
  refine ⟨h2, fun d hd => ?_⟩
  by_cases h1 : d = 1
  · exact .inl h1
  by_cases hp : d = p
  · exact .inr hp
  exfalso
  obtain ⟨e, he⟩ := hd
  have d0 : d ≠ 0 := fun z => by subst z; simp at he; omega
  have e0 : e ≠ 0 := fun z => by subst z; simp at he; omega
  have e1 : e ≠ 1 := fun z => by subst z; simp at he; exact hp he.symm
  by_cases hlt : d < k + 2
  · exact noDiv_at h d (by omega) hlt ⟨e, he⟩
  · by_cases hlt2 : e < k + 2
    · exact noDiv_at h e (by omega) hlt2 ⟨d, by rw [he, Nat.mul_comm]⟩
    · have : (k + 2) * (k + 2) ≤ d * e := Nat.mul_le_mul (by omega) (by omega)
      omega
theorem IsPrime.coprime {p a : Nat} (hp : IsPrime p) (h : ¬ p ∣ a) : Nat.Coprime p a := by
  rcases hp.2 _ (Nat.gcd_dvd_left p a) with e | e
  · exact e
  · exact absurd (e ▸ Nat.gcd_dvd_right p a) h
theorem IsPrime.mul {p a b : Nat} (hp : IsPrime p) (h : p ∣ a * b) : p ∣ a ∨ p ∣ b := by
  by_cases h1 : p ∣ a
  · exact .inl h1
  · exact .inr ((hp.coprime h1).dvd_of_dvd_mul_left h)
theorem dvd_sub_of {p x y : Nat} (h : x % p = y % p) : p ∣ y - x := Nat.dvd_of_mod_eq_zero (Nat.sub_mod_eq_zero_of_mod_eq h.symm)
theorem mod_of_dvd_sub {p x y : Nat} (hl : x ≤ y) (h : p ∣ y - x) : x % p = y % p := by
  obtain ⟨q, hq⟩ := h
  have e : y = x + p * q := by omega
  rw [e, Nat.add_mul_mod_self_left]
theorem perm_of : ∀ {M L : List Nat}, M.Nodup → (∀ x, x ∈ M → x ∈ L) → L.length = M.length → M.Perm L
  | [], L, _, _, hl => by
    have : L = [] := List.length_eq_zero_iff.mp hl
    rw [this]
  | a :: M, L, hn, hs, hl => by
    have ha : a ∈ L := hs a List.mem_cons_self
    have hn' := List.nodup_cons.mp hn
    have h2 : M.Perm (L.erase a) := perm_of hn'.2 (fun x hx => (List.mem_erase_of_ne (fun e => hn'.1 (by rw [← e]; exact hx))).mpr (hs x (List.mem_cons_of_mem _ hx))) (by
      rw [List.length_erase_of_mem ha]
      rw [List.length_cons] at hl
      omega)
    exact (List.Perm.cons a h2).trans (List.perm_cons_erase ha).symm
def prod : List Nat → Nat
  | [] => 1
  | a :: l => a * prod l
theorem prod_perm {a b : List Nat} (h : a.Perm b) : prod a = prod b := by
  induction h with
  | nil => rfl
  | cons x _ ih => show x * _ = x * _; rw [ih]
  | swap x y l => show y * (x * _) = x * (y * _); rw [← Nat.mul_assoc, ← Nat.mul_assoc, Nat.mul_comm y x]
  | trans _ _ h1 h2 => rw [h1, h2]
theorem prod_map {p a : Nat} : ∀ l : List Nat, prod (l.map fun x => a * x % p) % p = a ^ l.length * prod l % p
  | [] => by simp [prod]
  | x :: l => by
    show (a * x % p) * prod (l.map fun x => a * x % p) % p = a ^ (l.length + 1) * (x * prod l) % p
    rw [Nat.mul_mod, Nat.mod_mod, prod_map l, ← Nat.mul_mod, Nat.pow_succ]
    congr 1
    rw [Nat.mul_assoc (a ^ l.length) a, Nat.mul_left_comm a x, Nat.mul_comm a x, Nat.mul_assoc x a, ← Nat.mul_assoc (a ^ l.length) x, Nat.mul_comm (a ^ l.length) x, Nat.mul_assoc x (a ^ l.length), ← Nat.mul_assoc (a ^ l.length), Nat.mul_comm (a ^ l.length) a, Nat.mul_assoc a]
theorem prod_not {p : Nat} (hp : IsPrime p) : ∀ l : List Nat, (∀ x, x ∈ l → ¬ p ∣ x) → ¬ p ∣ prod l
  | [], _, h => by
    have : p = 1 := Nat.dvd_one.mp h
    have := hp.1
    omega
  | x :: l, h, hd => by
    rcases hp.mul (show p ∣ x * prod l from hd) with h1 | h1
    · exact h x List.mem_cons_self h1
    · exact prod_not hp l (fun y hy => h y (List.mem_cons_of_mem _ hy)) h1
theorem fermat {p a : Nat} (hp : IsPrime p) (ha : ¬ p ∣ a) : a ^ (p - 1) % p = 1 % p := by
  have hp2 := hp.1
  let L := List.range' 1 (p - 1)
  have hL : ∀ x, x ∈ L ↔ 1 ≤ x ∧ x < p := fun x => by
    show x ∈ List.range' 1 (p - 1) ↔ _
    rw [List.mem_range'_1]
    omega
  have hnL : L.Nodup := List.nodup_range'
  have hLn : ∀ x, x ∈ L → ¬ p ∣ x := fun x hx hd => by
    have := (hL x).mp hx
    have := Nat.le_of_dvd (by omega) hd
    omega
  have hM : (L.map fun x => a * x % p).Perm L := by
    refine perm_of ?_ ?_ (by rw [List.length_map])
    · refine List.pairwise_map.mpr (List.Pairwise.imp_of_mem ?_ hnL)
      intro x y hx hy hne he
      have bx := (hL x).mp hx
      have bY := (hL y).mp hy
      have key : ∀ u v, 1 ≤ u → u < p → v < p → u ≤ v → a * u % p = a * v % p → u = v := fun u v h1 h2 h3 h4 h5 => by
        have hd : p ∣ a * (v - u) := by
          rw [Nat.mul_sub]
          exact dvd_sub_of h5
        rcases hp.mul hd with h6 | h6
        · exact absurd h6 ha
        · by_cases h7 : v - u = 0
          · omega
          · have := Nat.le_of_dvd (by omega) h6
            omega
      rcases Nat.le_total x y with h | h
      · exact hne (key x y bx.1 bx.2 bY.2 h he)
      · exact hne (key y x bY.1 bY.2 bx.2 h he.symm).symm
    · intro z hz
      obtain ⟨x, hx, rfl⟩ := List.mem_map.mp hz
      refine (hL _).mpr ⟨?_, Nat.mod_lt _ (by omega)⟩
      by_cases h0 : a * x % p = 0
      · rcases hp.mul (Nat.dvd_of_mod_eq_zero h0) with h6 | h6
        · exact absurd h6 ha
        · exact absurd h6 (hLn x hx)
      · omega
  have e1 := prod_perm hM
  have e2 : a ^ L.length * prod L % p = prod L % p := by rw [← prod_map, e1]
  have hlen : L.length = p - 1 := List.length_range'
  rw [hlen] at e2
  have hpos : 1 ≤ a ^ (p - 1) := Nat.one_le_iff_ne_zero.mpr fun z => by
    have : a = 0 := Nat.pow_eq_zero.mp z |>.1
    subst this
    exact ha (Nat.dvd_zero p)
  have hd : p ∣ (a ^ (p - 1) - 1) * prod L := by
    rw [Nat.sub_mul, Nat.one_mul]
    exact dvd_sub_of e2.symm
  rcases hp.mul hd with h | h
  · exact (mod_of_dvd_sub hpos h).symm
  · exact absurd h (prod_not hp L hLn)
theorem p2 : IsPrime 2 := prime_of (k := 0) (by decide) (by decide) (by decide)
theorem p3 : IsPrime 3 := prime_of (k := 0) (by decide) (by decide) (by decide)
theorem p5 : IsPrime 5 := prime_of (k := 1) (by decide) (by decide) (by decide +kernel)
theorem p7 : IsPrime 7 := prime_of (k := 1) (by decide) (by decide) (by decide +kernel)
theorem p11 : IsPrime 11 := prime_of (k := 2) (by decide) (by decide) (by decide +kernel)
theorem p13 : IsPrime 13 := prime_of (k := 2) (by decide) (by decide) (by decide +kernel)
theorem p101 : IsPrime 101 := prime_of (k := 9) (by decide) (by decide) (by decide +kernel)
theorem pBig : IsPrime 999999937 := prime_of (k := 31622) (by decide) (by decide +kernel) (by decide +kernel)
end Br.F

/-! ### tables' polynomials: the shares of Lagrange's formula modulo a prime -/
namespace Br.F
def Tp (x : Int) : Nat → Int
  | 0 => 1
  | n + 1 => Tp x n * (x - (n : Int))
def Ab (x : Int) (at_ : Nat) : Nat → Int
  | 0 => 1
  | n + 1 => if n = at_ then Ab x at_ n else Ab x at_ n * (x - (n : Int))
def fct : Nat → Int
  | 0 => 1
  | n + 1 => fct n * ((n : Int) + 1)
def sg (m : Nat) : Int := if m % 2 = 0 then 1 else -1
theorem sg_succ (m : Nat) : sg (m + 1) = - sg m := by
  unfold sg
  split <;> split <;> first | omega | rfl
theorem Ab_eq {x : Int} {at_ n : Nat} (h : n ≠ at_) : Ab x at_ (n + 1) = Ab x at_ n * (x - (n : Int)) := if_neg h
theorem Ab_at {x : Int} {at_ : Nat} : Ab x at_ (at_ + 1) = Ab x at_ at_ := if_pos rfl
theorem Ab_lt {x : Int} {at_ : Nat} : ∀ {n : Nat}, n ≤ at_ → Ab x at_ n = Tp x n
  | 0, _ => rfl
  | n + 1, h => by
    rw [Ab_eq (by omega), Ab_lt (by omega)]
    rfl
theorem Tp_split {x : Int} {at_ : Nat} : ∀ {n : Nat}, at_ < n → Tp x n = (x - (at_ : Int)) * Ab x at_ n
  | 0, h => by omega
  | n + 1, h => by
    by_cases e : n = at_
    · subst e
      rw [Ab_at, Ab_lt (Nat.le_refl _), Int.mul_comm]
      rfl
    · rw [Ab_eq e]
      show Tp x n * (x - (n : Int)) = _
      rw [Tp_split (at_ := at_) (by omega), Int.mul_assoc]
theorem Ab_zero {x at_ : Nat} (hx : x ≠ at_) : ∀ {n : Nat}, x < n → Ab (x : Int) at_ n = 0
  | 0, h => by omega
  | n + 1, h => by
    by_cases e : n = at_
    · subst e
      rw [Ab_at, Ab_zero hx (by omega)]
    · rw [Ab_eq e]
      by_cases e2 : x = n
      · subst e2
        rw [Int.sub_self, Int.mul_zero]
      · rw [Ab_zero hx (by omega), Int.zero_mul]
theorem Tp_low {at_ : Nat} : ∀ {n : Nat}, n ≤ at_ → Tp (at_ : Int) n * fct (at_ - n) = fct at_
  | 0, _ => by rw [Nat.sub_zero]; exact Int.one_mul _
  | n + 1, h => by
    have ih := Tp_low (at_ := at_) (n := n) (by omega)
    obtain ⟨k, hk⟩ : ∃ k, at_ - n = k + 1 := ⟨at_ - n - 1, by omega⟩
    have e : at_ - (n + 1) = k := by omega
    rw [hk] at ih
    rw [e]
    show Tp (at_ : Int) n * ((at_ : Int) - (n : Int)) * fct k = _
    have e2 : (at_ : Int) - (n : Int) = (k : Int) + 1 := by omega
    rw [e2, Int.mul_assoc, Int.mul_comm ((k : Int) + 1)]
    exact ih
theorem Ab_hi {at_ : Nat} : ∀ m : Nat, Ab (at_ : Int) at_ (at_ + 1 + m) = fct at_ * (sg m * fct m)
  | 0 => by
    show Ab (at_ : Int) at_ (at_ + 1) = _
    rw [Ab_at, Ab_lt (Nat.le_refl _)]
    have h := Tp_low (at_ := at_) (Nat.le_refl at_)
    rw [Nat.sub_self] at h
    have e : fct 0 = 1 := rfl
    have e2 : sg 0 = 1 := rfl
    rw [e, Int.mul_one] at h
    rw [h, e, e2, Int.mul_one, Int.mul_one]
  | m + 1 => by
    show Ab (at_ : Int) at_ (at_ + 1 + m + 1) = _
    rw [Ab_eq (by omega), Ab_hi m, sg_succ]
    show _ = fct at_ * (-sg m * (fct m * ((m : Int) + 1)))
    have e : (at_ : Int) - ((at_ + 1 + m : Nat) : Int) = -((m : Int) + 1) := by omega
    rw [e]
    grind
theorem IsPrime.mulI {p : Nat} {a b : Int} (hp : IsPrime p) (h : (p : Int) ∣ a * b) : (p : Int) ∣ a ∨ (p : Int) ∣ b := by
  have h' : p ∣ a.natAbs * b.natAbs := by
    rw [← Int.natAbs_mul]
    exact Int.natAbs_dvd_natAbs.mpr h
  rcases hp.mul h' with h1 | h1
  · exact .inl (Int.ofNat_dvd_left.mpr h1)
  · exact .inr (Int.ofNat_dvd_left.mpr h1)
theorem small_dvd {p : Nat} {z : Int} (h : (p : Int) ∣ z) (h1 : -(p : Int) < z) (h2 : z < p) : z = 0 := by
  obtain ⟨q, hq⟩ := h
  have hp : 0 < (p : Int) := by omega
  by_cases h0 : q = 0
  · rw [hq, h0, Int.mul_zero]
  · exfalso
    rcases Int.lt_or_gt_of_ne h0 with hl | hl
    · have : (p : Int) * q ≤ p * (-1) := Int.mul_le_mul_of_nonneg_left (by omega) (by omega)
      omega
    · have : (p : Int) * 1 ≤ p * q := Int.mul_le_mul_of_nonneg_left (by omega) (by omega)
      omega
theorem one_not {p : Nat} (hp : IsPrime p) : ¬ (p : Int) ∣ 1 := fun h => by
  have := small_dvd h (by have := hp.1; omega) (by have := hp.1; omega)
  omega
theorem Ab_not {p at_ : Nat} {x : Int} (hp : IsPrime p) : ∀ {n : Nat}, (∀ o : Nat, o < n → o ≠ at_ → ¬ (p : Int) ∣ x - (o : Int)) → ¬ (p : Int) ∣ Ab x at_ n
  | 0, _ => one_not hp
  | n + 1, h => by
    have ih := Ab_not (n := n) hp fun o ho => h o (by omega)
    by_cases e : n = at_
    · subst e
      rw [Ab_at]
      exact ih
    · rw [Ab_eq e]
      intro hd
      rcases hp.mulI hd with h1 | h1
      · exact ih h1
      · exact h n (by omega) e h1
theorem Ab_own {p at_ n : Nat} (hp : IsPrime p) (ha : at_ < n) (hn : n ≤ p) : ¬ (p : Int) ∣ Ab (at_ : Int) at_ n :=
  Ab_not hp fun o ho hne hd => by
    have := small_dvd hd (by omega) (by omega)
    omega
/-- the share of the index at_ at x -/
def Bas (p n at_ : Nat) (x v : Int) : Prop := 0 ≤ v ∧ v < p ∧ (p : Int) ∣ v * Ab (at_ : Int) at_ n - Ab x at_ n
theorem Bas.uniq {p n at_ : Nat} {x u v : Int} (hp : IsPrime p) (ha : at_ < n) (hn : n ≤ p) (hu : Bas p n at_ x u) (hv : Bas p n at_ x v) : u = v := by
  have h : (p : Int) ∣ (u - v) * Ab (at_ : Int) at_ n := by
    have := Int.dvd_sub hu.2.2 hv.2.2
    have e : (u - v) * Ab (at_ : Int) at_ n = u * Ab (at_ : Int) at_ n - Ab x at_ n - (v * Ab (at_ : Int) at_ n - Ab x at_ n) := by grind
    rw [e]
    exact this
  rcases hp.mulI h with h1 | h1
  · have := small_dvd h1 (by have := hu.1; have := hv.2.1; omega) (by have := hv.1; have := hu.2.1; omega)
    omega
  · exact absurd h1 (Ab_own hp ha hn)
theorem Bas.ind {p n at_ x : Nat} (hp : IsPrime p) (hx : x < n) : Bas p n at_ (x : Int) (if at_ = x then 1 else 0) := by
  have hp2 := hp.1
  refine ⟨by split <;> omega, by split <;> omega, ?_⟩
  by_cases e : at_ = x
  · subst e
    rw [if_pos rfl, Int.one_mul, Int.sub_self]
    exact Int.dvd_zero _
  · rw [if_neg e, Int.zero_mul, Ab_zero (fun z => e z.symm) hx, Int.sub_self]
    exact Int.dvd_zero _
/-- by the inverse of the whole bottom -/
theorem Bas.inv {p n at_ : Nat} {x tp bot y : Int} (ha : at_ < n) (hp2 : 2 ≤ p) (ht : (p : Int) ∣ tp - Tp x n) (hb : (p : Int) ∣ bot - Ab (at_ : Int) at_ n) (hy : y * ((x - (at_ : Int)) * bot) % p = 1) : Bas p n at_ x (tp * y % p) := by
  refine ⟨Int.emod_nonneg _ (by omega), Int.emod_lt_of_pos _ (by omega), ?_⟩
  rw [Tp_split ha] at ht
  generalize Ab (at_ : Int) at_ n = A at *
  generalize Ab x at_ n = U at *
  generalize x - (at_ : Int) = D at *
  obtain ⟨t1, h1⟩ := ht
  obtain ⟨t2, h2⟩ := hb
  have h3 := Int.mul_ediv_add_emod (y * (D * bot)) p
  rw [hy] at h3
  have h4 := Int.mul_ediv_add_emod (tp * y) p
  generalize y * (D * bot) / (p : Int) = t3 at *
  generalize tp * y / (p : Int) = t4 at *
  generalize tp * y % (p : Int) = v at *
  refine ⟨t1 * y * A - t4 * A + U * (t3 - D * y * t2), ?_⟩
  have e1 : tp = D * U + p * t1 := by omega
  have e2 : bot = A + p * t2 := by omega
  have e3 : v = tp * y - p * t4 := by omega
  subst e1 e2 e3
  have e5 : y * (D * (A + p * t2)) = p * t3 + 1 := by omega
  have e6 : U * (y * (D * (A + p * t2))) = U * (p * t3 + 1) := by rw [e5]
  grind
theorem pow_dvd {p a b : Int} (h : p ∣ a - b) : ∀ k : Nat, p ∣ a ^ k - b ^ k
  | 0 => by rw [Int.pow_zero, Int.pow_zero, Int.sub_self]; exact Int.dvd_zero _
  | k + 1 => by
    obtain ⟨u, hu⟩ := pow_dvd h k
    obtain ⟨v, hv⟩ := h
    refine ⟨u * a + b ^ k * v, ?_⟩
    rw [Int.pow_succ, Int.pow_succ]
    have e1 : a ^ k = b ^ k + p * u := by omega
    have e2 : a = b + p * v := by omega
    rw [e1]
    generalize b ^ k = B
    subst e2
    grind
/-- by Fermat's power -/
theorem Bas.pow {p n at_ : Nat} {x ab be pw : Int} (hp : IsPrime p) (hat : at_ < n) (hn : n ≤ p) (hbe0 : 0 ≤ be) (ha : (p : Int) ∣ ab - Ab x at_ n) (hb : (p : Int) ∣ be - Ab (at_ : Int) at_ n) (hw : (p : Int) ∣ pw - be ^ (p - 2)) : Bas p n at_ x (ab * pw % p) := by
  have hp2 := hp.1
  refine ⟨Int.emod_nonneg _ (by omega), Int.emod_lt_of_pos _ (by omega), ?_⟩
  have hA := Ab_own hp hat hn
  generalize Ab (at_ : Int) at_ n = A at *
  generalize Ab x at_ n = U at *
  have hbn : ¬ (p : Int) ∣ be := fun h => hA (by
    have e : A = be - (be - A) := by omega
    rw [e]
    exact Int.dvd_sub h hb)
  obtain ⟨bn, rfl⟩ : ∃ bn : Nat, be = (bn : Int) := ⟨be.toNat, by omega⟩
  have hf : bn ^ (p - 1) % p = 1 % p := fermat hp fun h => hbn (Int.ofNat_dvd.mpr h)
  have hf2 : ((bn : Int) ^ (p - 1)) % (p : Int) = 1 := by
    have h1 : 1 % p = 1 := Nat.mod_eq_of_lt (by omega)
    rw [h1] at hf
    have e : (((bn ^ (p - 1) % p : Nat)) : Int) = 1 := by rw [hf]; rfl
    rw [Int.natCast_emod, Int.natCast_pow] at e
    exact e
  have h3 := Int.mul_ediv_add_emod ((bn : Int) ^ (p - 1)) p
  rw [hf2] at h3
  obtain ⟨k, hk⟩ : ∃ k, p = k + 2 := ⟨p - 2, by omega⟩
  have e1 : p - 1 = k + 1 := by omega
  have e2 : p - 2 = k := by omega
  rw [e1, Int.pow_succ] at h3
  rw [e2] at hw
  generalize (bn : Int) ^ k = W at *
  generalize (W * (bn : Int)) / (p : Int) = t3 at *
  obtain ⟨t1, h1⟩ := ha
  obtain ⟨t2, h2⟩ := hb
  obtain ⟨t5, h5⟩ := hw
  have h4 := Int.mul_ediv_add_emod (ab * pw) p
  generalize ab * pw / (p : Int) = t4 at *
  generalize ab * pw % (p : Int) = v at *
  have g1 : ab = U + p * t1 := by omega
  have g2 : A = (bn : Int) - p * t2 := by omega
  have g3 : v = ab * pw - p * t4 := by omega
  have g5 : pw = W + p * t5 := by omega
  have g6 : W * (bn : Int) = 1 + p * t3 := by omega
  subst g1 g5
  subst g3
  subst g2
  refine ⟨t1 * (W + p * t5) * ((bn : Int) - p * t2) - t4 * ((bn : Int) - p * t2) + U * t3 + U * t5 * ((bn : Int) - p * t2) - U * W * t2, ?_⟩
  have g7 : U * (W * (bn : Int)) = U * (1 + p * t3) := by rw [g6]
  grind
/-- sums -/
def S1 (f : Nat → Int) : Nat → Int
  | 0 => 0
  | n + 1 => S1 f n + f n
theorem S1_congr {f g : Nat → Int} : ∀ {n : Nat}, (∀ i, i < n → f i = g i) → S1 f n = S1 g n
  | 0, _ => rfl
  | n + 1, h => by
    show S1 f n + f n = S1 g n + g n
    rw [S1_congr fun i hi => h i (by omega), h n (by omega)]
theorem S1_mul {f : Nat → Int} {c : Int} : ∀ {n : Nat}, S1 (fun i => c * f i) n = c * S1 f n
  | 0 => (Int.mul_zero c).symm
  | n + 1 => by
    show S1 (fun i => c * f i) n + c * f n = c * (S1 f n + f n)
    rw [S1_mul, Int.mul_add]
theorem S1_one {n k : Nat} {f : Nat → Int} (h : ∀ i, i ≠ k → f i = 0) : k < n → S1 f n = f k := by
  induction n with
  | zero => intro hk; omega
  | succ n ih =>
    intro hk
    show S1 f n + f n = f k
    by_cases e : k = n
    · subst e
      have z : ∀ m, m ≤ k → S1 f m = 0 := fun m => by
        induction m with
        | zero => intro _; rfl
        | succ m ih => intro hm; show S1 f m + f m = 0; rw [ih (by omega), h m (by omega)]; rfl
      rw [z k (Nat.le_refl _), Int.zero_add]
    · rw [ih (by omega), h n (fun z => e z.symm), Int.add_zero]
/-- the value of the table's polynomial -/
def Itp (p : Nat) (t : List (List Int)) (x y v : Int) : Prop := ∃ R C : Nat → Int, (∀ i, i < t.length → Bas p t.length i x (R i)) ∧ (∀ j, j < t.length → Bas p t.length j y (C j)) ∧
  v = S1 (fun i => R i * S1 (fun j => C j * (t.getD i []).getD j 0) t.length) t.length % p
theorem Itp.uniq {p : Nat} {t : List (List Int)} {x y u v : Int} (hp : IsPrime p) (hn : t.length ≤ p) (hu : Itp p t x y u) (hv : Itp p t x y v) : u = v := by
  obtain ⟨R, C, h1, h2, h3⟩ := hu
  obtain ⟨R', C', h1', h2', h3'⟩ := hv
  rw [h3, h3']
  congr 1
  refine S1_congr fun i hi => ?_
  rw [(h1 i hi).uniq hp hi hn (h1' i hi)]
  congr 1
  exact S1_congr fun j hj => by rw [(h2 j hj).uniq hp hj hn (h2' j hj)]
theorem Itp.own {p : Nat} {t : List (List Int)} {x y : Nat} (hp : IsPrime p) (hx : x < t.length) (hy : y < t.length) (h0 : 0 ≤ (t.getD x []).getD y 0) (h1 : (t.getD x []).getD y 0 < p) : Itp p t x y ((t.getD x []).getD y 0) := by
  refine ⟨fun i => if i = x then 1 else 0, fun j => if j = y then 1 else 0, fun i _ => .ind hp hx, fun j _ => .ind hp hy, ?_⟩
  rw [S1_one (k := x) (fun i hi => by show (if i = x then (1 : Int) else 0) * _ = 0; rw [if_neg hi, Int.zero_mul]) hx]
  show _ = (if x = x then (1 : Int) else 0) * S1 _ _ % _
  rw [if_pos rfl, Int.one_mul, S1_one (k := y) (fun j hj => by show (if j = y then (1 : Int) else 0) * _ = 0; rw [if_neg hj, Int.zero_mul]) hy]
  show _ = (if y = y then (1 : Int) else 0) * _ % _
  rw [if_pos rfl, Int.one_mul, Int.emod_eq_of_lt h0 h1]
/-- the share, written out -/
def BsV (p n i : Nat) (x : Int) : Int := Ab x i n * (Ab (i : Int) i n % p) ^ (p - 2) % p
theorem BsV.ok {p n i : Nat} {x : Int} (hp : IsPrime p) (hi : i < n) (hn : n ≤ p) : Bas p n i x (BsV p n i x) := by
  have hp2 := hp.1
  refine Bas.pow (be := Ab (i : Int) i n % p) hp hi hn (Int.emod_nonneg _ (by omega)) ⟨0, by omega⟩ ?_ ⟨0, by omega⟩
  have := Int.mul_ediv_add_emod (Ab (i : Int) i n) p
  exact ⟨-(Ab (i : Int) i n / p), by rw [Int.mul_neg]; omega⟩
theorem Itp.mk' {p : Nat} {t : List (List Int)} {x y v : Int} (hp : IsPrime p) (hn : t.length ≤ p) (h0 : 0 ≤ v) (h1 : v < p) (hd : (p : Int) ∣ v - S1 (fun i => BsV p t.length i x * S1 (fun j => BsV p t.length j y * (t.getD i []).getD j 0) t.length) t.length) : Itp p t x y v := by
  refine ⟨fun i => BsV p t.length i x, fun j => BsV p t.length j y, fun i hi => BsV.ok hp hi hn, fun j hj => BsV.ok hp hj hn, ?_⟩
  generalize S1 _ _ = s at *
  have hp2 := hp.1
  have h4 := Int.mul_ediv_add_emod s p
  have h5 := Int.emod_nonneg s (show (p : Int) ≠ 0 by omega)
  have h6 := Int.emod_lt_of_pos s (show (0 : Int) < p by omega)
  have h7 : (p : Int) ∣ v - s % p := by
    have e : v - s % p = v - s + p * (s / p) := by omega
    rw [e]
    exact Int.dvd_add hd (Int.dvd_mul_right _ _)
  have := small_dvd h7 (by omega) (by omega)
  omega
end Br.F

/-! ### zip of a list and a tuple -/
namespace Br
open PySem PySem.Spec PyProof.Rows L2
def ItzM (K : PySem.W.Frag) (a b : Addr) : It where
  go := fun i H => ∃ (xs ys : List V), SqL K H a xs ∧ SqT K H b ys ∧ i < xs.length ∧ i < ys.length
  yld := fun i H v H' => ∃ (p : Addr) (x y : V), v = .ref p ∧ H p = none ∧ H' = upd H p (.tup [x, y]) ∧ (∀ xs, SqL K H a xs → xs[i]? = some x) ∧ (∀ ys, SqT K H b ys → ys[i]? = some y)
  stop := fun i H => ∃ (xs ys : List V), SqL K H a xs ∧ SqT K H b ys ∧ i ≤ xs.length ∧ i ≤ ys.length ∧ (i = xs.length ∨ i = ys.length)
def MixSt (a b z p q i1 i2 : Addr) (i : Nat) (h : Heap) : Prop :=
  IsZip h z p q .none ∧ IsTupOf2 h p (.ref i1) (.ref i2) ∧ (∃ u v, IsTupOf2 h q u v) ∧ h.IsListIter i1 a i ∧ h.IsTupleIter i2 b i
theorem MixSt.sizes {a b z p q i1 i2 : Addr} {i : Nat} {h : Heap} (m : MixSt a b z p q i1 i2 i h) : z < h.objs.size ∧ p < h.objs.size ∧ q < h.objs.size ∧ i1 < h.objs.size ∧ i2 < h.objs.size := by
  obtain ⟨e1, e2, ⟨_, _, e3⟩, ⟨_, e4, _⟩, ⟨_, e5, _⟩⟩ := m
  exact ⟨Heap.lt_size e1, Heap.lt_size e2, Heap.lt_size e3, Heap.lt_size e4, Heap.lt_size e5⟩
theorem in5 {c z p q i1 i2 : Addr} (h : c ∈ [z, p, q, i1, i2]) : c = z ∨ c = p ∨ c = q ∨ c = i1 ∨ c = i2 := by simpa using h
theorem turn_mix {P : Program} {w : World} {K : PySem.W.Frag} {elts : List Expr} {kk : Nat} {tpos : Pos} {a b z p q i1 i2 : Addr} (S : ZipSep2 z p q i1 i2 [i1, a] [i2, b]) :
    Turn P w K (.Tuple elts kk tpos) (ItzM K a b) [z, p, q, i1, i2] z (MixSt a b z p q i1 i2) := by
  have ha : a ≠ i1 ∧ b ≠ i2 ∨ True := .inr trivial
  refine ⟨by simp, ?obj, ?keep, ?item, ?done, ?self⟩
  case obj =>
    intro i h st c hc
    obtain ⟨e1, e2, ⟨_, _, e3⟩, ⟨o4, e4, _, d4⟩, ⟨o5, e5, _, d5⟩⟩ := st
    rcases in5 hc with rfl | rfl | rfl | rfl | rfl
    · exact ⟨_, e1, fun _ z => nomatch z⟩
    · exact ⟨_, e2, fun _ z => nomatch z⟩
    · exact ⟨_, e3, fun _ z => nomatch z⟩
    · exact ⟨_, e4, fun _ z => by rw [d4] at z; cases z⟩
    · exact ⟨_, e5, fun _ z => by rw [d5] at z; cases z⟩
  case keep =>
    intro i h h' st k
    obtain ⟨e1, e2, ⟨u, v, e3⟩, e4, e5⟩ := st
    exact ⟨k _ (by simp) _ e1, k _ (by simp) _ e2, ⟨u, v, k _ (by simp) _ e3⟩, e4.at fun o => k _ (by simp) o, e5.at fun o => k _ (by simp) o⟩
  case item =>
    intro X hP hw hK hc i pins s σ H E I hf st hg
    subst hP hw hK
    have sz := st.sizes
    obtain ⟨e1, e2, ⟨u, v, e3⟩, e4, e5⟩ := st
    obtain ⟨xs, ys, hx, hy, lx, ly⟩ := hg
    obtain ⟨us, rx, p1, _⟩ := I.list hx
    obtain ⟨ws, ry, p2, _⟩ := I.tuple hy
    have nx := rx.length
    have ny := ry.length
    have hd : X.A.in1.handled = none := I.ok.hd hc
    have na : a ≠ i1 := fun e => by
      obtain ⟨o, eo, co, _⟩ := e4
      obtain ⟨o', _, eo', co', _⟩ := p1
      rw [e, eo] at eo'
      cases eo'
      rw [co] at co'
      simp at co'
    have nb : b ≠ i2 := fun e => by
      obtain ⟨o, eo, co, _⟩ := e5
      obtain ⟨o', eo', co', _⟩ := p2
      rw [e, eo] at eo'
      cases eo'
      rw [co] at co'
      simp at co'
    refine wpAny_pyNext_zipD2_item S (Draws.list hd i1 a na us.toArray) (Draws.tuple hd i2 b nb ws.toArray) e1 e2 e3 ⟨e4, p1.isList⟩ ⟨e5, p2⟩ (by simp; omega) (by simp; omega) ?_
    intro x1 x2 h1 tk q1 q2 z1 t1 s1 s2 nw hs hk
    refine ⟨_, rfl, wpAny_letOwnedTupleGo_zip (s := { s with heap := h1, toks := tk }) z1 fun h2 z2 sb => ?_⟩
    obtain ⟨x, gx⟩ : ∃ x, xs[i]? = some x := ⟨_, List.getElem?_eq_getElem lx⟩
    obtain ⟨y, gy⟩ : ∃ y, ys[i]? = some y := ⟨_, List.getElem?_eq_getElem ly⟩
    obtain ⟨ux, gux, rux⟩ := rx.get gx
    obtain ⟨uy, guy, ruy⟩ := ry.get gy
    have ex : x1 = ux := by
      rw [List.getElem?_toArray, gux] at q1
      exact (Option.some.inj q1).symm
    have ey : x2 = uy := by
      rw [List.getElem?_toArray, guy] at q2
      exact (Option.some.inj q2).symm
    subst ex ey
    have ne : ∀ {c : Addr}, c < s.heap.objs.size → s.heap.objs.size ≠ c := fun h => Nat.ne_of_gt h
    have new2 : h2.get? s.heap.objs.size = some { cls := .type "tuple", data := .seq #[x1, x2] } := (sb.2 _ (ne sz.1)).trans nw
    have kp : ∀ c o, c ∉ [z, p, q, i1, i2] → s.heap.get? c = some o → h2.get? c = some o := fun c o hc e => by
      have m : ∀ d, d ∈ [z, p, q, i1, i2] → c ≠ d := fun d hd e => hc (e ▸ hd)
      exact (sb.2 c (m z (by simp))).trans (hk c o (m z (by simp)) (m q (by simp)) (m i1 (by simp)) (m i2 (by simp)) e)
    have ok : ObjOk X.prog X.w (upd H s.heap.objs.size (.tup [x, y])) h2 s.heap.objs.size (.tup [x, y]) :=
      ⟨(show 2 ≤ sizeLine by decide), [x1, x2], .cons rux (.cons ruy .nil), ⟨_, new2, rfl, 0, rfl⟩⟩
    have J := I.turnedNew (t' := tk) kp hf (Nat.le_refl _) ok
    refine ⟨.ref s.heap.objs.size, _, J, rfl, ⟨_, x, y, rfl, I.hok.fresh (Nat.le_refl _), rfl, fun l hl => by rw [I.list_inj hl hx]; exact gx, fun l hl => by rw [I.tuple_inj hl hy]; exact gy⟩, ?_, fun c hcm => ?_⟩
    · refine ⟨z2, (sb.2 _ S.TIz).trans (hk _ _ S.TIz S.TITO S.TIi1 S.TIi2 e2), ⟨_, _, (sb.2 _ S.TOz).trans t1⟩, s1.1.at fun o e => (sb.2 _ S.zi1.symm).trans e, s2.1.at fun o e => (sb.2 _ S.zi2.symm).trans e⟩
    · rw [upd_ne]
      · exact (hf c hcm).1
      · rcases in5 hcm with rfl | rfl | rfl | rfl | rfl
        · exact (ne sz.1).symm
        · exact (ne sz.2.1).symm
        · exact (ne sz.2.2.1).symm
        · exact (ne sz.2.2.2.1).symm
        · exact (ne sz.2.2.2.2).symm
  case done =>
    intro X hP hw hK hc i pins s σ H E I hf st hg
    subst hP hw hK
    obtain ⟨e1, e2, ⟨u, v, e3⟩, e4, e5⟩ := st
    obtain ⟨xs, ys, hx, hy, lx, ly, hend⟩ := hg
    obtain ⟨us, rx, p1, _⟩ := I.list hx
    obtain ⟨ws, ry, p2, _⟩ := I.tuple hy
    have nx := rx.length
    have ny := ry.length
    have hd : X.A.in1.handled = none := I.ok.hd hc
    have na : a ≠ i1 := fun e => by
      obtain ⟨o, eo, co, _⟩ := e4
      obtain ⟨o', _, eo', co', _⟩ := p1
      rw [e, eo] at eo'
      cases eo'
      rw [co] at co'
      simp at co'
    have nb : b ≠ i2 := fun e => by
      obtain ⟨o, eo, co, _⟩ := e5
      obtain ⟨o', eo', co', _⟩ := p2
      rw [e, eo] at eo'
      cases eo'
      rw [co] at co'
      simp at co'
    refine wpAny_pyNext_zipD2_end S (Draws.list hd i1 a na us.toArray) (Draws.tuple hd i2 b nb ws.toArray) e1 e2 e3 ⟨e4, p1.isList⟩ ⟨e5, p2⟩ (by simp; omega) (by simp; omega) (by simp; omega) ?_
    intro h1 tk hk
    exact ⟨rfl, I.turnedL (t' := tk) (ch := [z, p, q, i1, i2]) (fun c o hc e => by
      have m : ∀ d, d ∈ [z, p, q, i1, i2] → c ≠ d := fun d hd e => hc (e ▸ hd)
      exact hk c o (m z (by simp)) (m q (by simp)) (m i1 (by simp)) (m i2 (by simp)) e) hf⟩
  case self => exact fun A i s Q E st h => wpAny_pyIter_zip st.1 h
def iZipM (K : PySem.W.Frag) (ta : TA) : TI := fun σ H R => ta σ H fun vs H1 => ∃ a b xs ys, vs = [.ref a, .ref b] ∧ SqL K H1 a xs ∧ SqT K H1 b ys ∧ R (ItzM K a b) H1
theorem pi_zipM {X : Cx} {e e2 : Expr} {ta : TA} {p pos tpos : Pos} {elts : List Expr} {kk : Nat} (hg : Gl X "zip") (hm : X.mg "zip" = none) (ha : PA X [e, e2] ta)
    (hs : starEach [e, e2] X.env = (false, eval e X.env) :: starEach [e2] X.env := by rfl) (hpl : (backTo pos (starEach [e2] X.env)).any (·.1) = false := by rfl) :
    PI X (.Tuple elts kk tpos) (.Call (.Name "zip" p) [e, e2] [] pos) (iZipM X.K ta) := by
  refine ⟨fun pins s σ H R I h => Call_ (ld_blt I hg hm PyProof.Rows.boot_zip (PyProof.Rows.callWith_type1 (thn (ha.run pos pins s σ H _ I h) ?_) hs hpl))⟩
  rintro us s1 ⟨vs, H1, I1, r1, a, b, xs, ys, rfl, hx, hy, go⟩
  obtain ⟨u1, u2, rfl, ra, rb⟩ : ∃ u1 u2, us = [u1, u2] ∧ RelV (.ref a) u1 ∧ RelV (.ref b) u2 := by
    cases r1 with
    | cons r rr =>
      cases rr with
      | cons r' rr =>
        cases rr
        exact ⟨_, _, rfl, r, r'⟩
  cases (show u1 = Value.ref a from ra)
  cases (show u2 = Value.ref b from rb)
  obtain ⟨us, rx, p1, _⟩ := I1.list hx
  obtain ⟨ws, ry, p2, _⟩ := I1.tuple hy
  have la : a < s1.heap.objs.size := p1.lt
  have lb : b < s1.heap.objs.size := by
    obtain ⟨_, e, _⟩ := id p2
    exact Heap.lt_size e
  refine zip_begins2 (begins_list a us.toArray) (begins_tuple b ws.toArray) p1.isList p2 ?_
  intro h1 hz hp hq g1 g2 hsz hk
  refine wpAny_pyIter_zip hz ?_
  have sep := zip_sep2 (N := s1.heap.objs.size) (fp1 := [a]) (fp2 := [b]) (fun c hc => by
    have e : c = a := by simpa using hc
    rw [e]; exact la) (fun c hc => by
    have e : c = b := by simpa using hc
    rw [e]; exact lb)
  refine ⟨_, _, _, _, H1, rfl, I1.kept (t' := s1.toks) hk, turn_mix sep, ⟨hz, hp, ⟨_, _, hq⟩, ⟨_, g1, rfl, rfl⟩, ⟨_, g2, rfl, rfl⟩⟩, fun c hc => ?_, go⟩
  have hle : s1.heap.objs.size ≤ c := by
    rcases in5 hc with e | e | e | e | e
    · rw [e]; exact Nat.le_add_right _ _
    · rw [e]; exact Nat.le_add_right _ _
    · rw [e]; exact Nat.le_add_right _ _
    · rw [e]; exact Nat.le_refl _
    · rw [e]; exact Nat.le_add_right _ _
  exact I1.fpOk hle (I1.hok.fresh hle)
theorem walk_mix {K : PySem.W.Frag} {a b : Addr} {xs ys : List V} {n : Nat} (h1 : xs.length = n) (h2 : ys.length = n) : Walk (ItzM K a b) n (fun H => SqL K H a xs ∧ SqT K H b ys) (YPair (fun i => xs[i]?) (fun i => ys[i]?)) := by
  refine ⟨fun i H hi q => ⟨xs, ys, q.1, q.2, by omega, by omega⟩, fun H q => ⟨xs, ys, q.1, q.2, by omega, by omega, by omega⟩, fun i H v H' hi q y => ?_⟩
  obtain ⟨p, x, y, e1, e2, e3, e4, e5⟩ := y
  exact ⟨p, x, y, e1, e2, e3, e4 _ q.1, e5 _ q.2⟩
/-- a for, a comprehension by a walk -/
theorem x_forI {wi : TI} {g : TG} {tb : TS} {D : Ends} {σ : L2.St} {H : Hp} {J : It} {n : Nat} {G : Hp → Prop} {Y : Nat → Hp → V → Hp → Prop} (hw : ∀ R : It → Hp → Prop, R J H → wi σ H R) (w : Walk J n G Y) (P : Nat → L2.St → Hp → Prop) (h0 : P 0 σ H)
    (hG : ∀ i σ' H', i ≤ n → P i σ' H' → G H') (hs : ∀ i x σ' H' H2, i < n → P i σ' H' → Y i H' x H2 → g x σ' H2 fun σ2 H3 => tb ⟨P (i + 1), D.rt, D.nx, P (i + 1)⟩ σ2 H3) (hd : ∀ σ' H', P n σ' H' → D.nx σ' H') : tFor wi g tb D σ H :=
  hw _ (for_it w P h0 hG hs hd)
theorem x_lcI {wi : TI} {g : TG} {te : TE} {vs : List Nat} {Q : VK} {σ : L2.St} {H : Hp} {J : It} {n : Nat} {G : Hp → Prop} {Y : Nat → Hp → V → Hp → Prop} (hw : ∀ R : It → Hp → Prop, R J H → wi σ H R) (w : Walk J n G Y) (P : Addr → Nat → Hp → Prop) (h0 : ∀ p, H p = none → P p 0 (upd H p (.lst [])))
    (hG : ∀ p i H', i ≤ n → H p = none → P p i H' → G H')
    (hs : ∀ p i x H' H2, i < n → H p = none → P p i H' → Y i H' x H2 → g x (wipe σ vs) H2 fun σ2 H3 => wipe σ2 vs = wipe σ vs ∧ te σ2 H3 fun y H4 => ∃ acc, H4 p = some (.lst acc) ∧ acc.length < sizeLine ∧ P p (i + 1) (upd H4 p (.lst (acc ++ [y]))))
    (hg : ∀ x σ' H' (R R' : L2.St → Hp → Prop), (∀ σ2 H2, R σ2 H2 → R' σ2 H2) → g x σ' H' R → g x σ' H' R') (hd : ∀ p H', H p = none → P p n H' → Q (.ref p) H') : tLc wi g tYes te vs σ H Q := by
  refine hw _ fun p hp => ?_
  refine lc_it w (Qd := fun H' => Q (.ref p) H') (P p) (h0 p hp) (fun i H' hi q => hG p i H' hi hp q) (fun i x H' H2 hi q y => ?_) fun H' q => hd p H' hp q
  refine hg _ _ _ _ _ (fun σ2 H3 z => ?_) (hs p i x H' H2 hi hp q y)
  refine ⟨z.1, ?_⟩
  unfold tYes
  exact iteT z.2
/-- a comprehension of truths, item by item -/
theorem x_lcB {wi : TI} {te : TE} {vs : List Nat} {j : Nat} {Q : VK} {σ : L2.St} {H : Hp} {J : It} {G : Hp → Prop} {xs : List V} (f : Nat → Bool) (hw : ∀ R : It → Hp → Prop, R J H → wi σ H R) (w : Walk J xs.length G (YAt xs)) (hn : xs.length ≤ 100000)
    (hG : ∀ H', Same H H' → G H') (hv : ∀ x, wipe ((wipe σ vs).set j (some x)) vs = wipe σ vs)
    (he : ∀ (i : Nat) x H', Same H H' → xs[i]? = some x → ∀ R : VK, (∀ H2, Same H' H2 → R (.bl (f i)) H2) → te ((wipe σ vs).set j (some x)) H' R)
    (hd : ∀ p H', H p = none → Same H H' → H' p = some (.lst (((List.range xs.length).map f).map V.bl)) → Q (.ref p) H') : tLc wi (gName j) tYes te vs σ H Q := by
  refine x_lcI hw w (fun p i H' => Same H H' ∧ H' p = some (.lst (((List.range i).map f).map V.bl))) (fun p hp => ⟨same_upd hp, upd_same⟩) (fun p i H' _ _ z => hG H' z.1) ?_ (fun x σ' H' R R' hr h => hr _ _ h) fun p H' hp z => hd p H' hp z.1 z.2
  rintro p i x H' H2 hi hp ⟨hs, hl⟩ ⟨rfl, hx⟩
  refine x_gName ⟨hv x, he i x _ hs hx _ fun H3 hs3 => ?_⟩
  refine ⟨_, hs3 _ _ hl, lt_line (by simp; omega), sput (hs.trans hs3) hp, ?_⟩
  rw [upd_same, List.range_succ, List.map_append, List.map_append]
  rfl
theorem x_all {K : PySem.W.Frag} {Q : VK} {H : Hp} {p : Addr} {bs : List Bool} (h : H p = some (.lst (bs.map V.bl))) (q : Q (.bl (bs.all id)) H) : rAll K [.ref p] H Q := ⟨p, bs, rfl, sq_of h, q⟩
theorem x_any {K : PySem.W.Frag} {Q : VK} {H : Hp} {p : Addr} {bs : List Bool} (h : H p = some (.lst (bs.map V.bl))) (q : Q (.bl (bs.any id)) H) : rAny K [.ref p] H Q := ⟨p, bs, rfl, sq_of h, q⟩
theorem all_range {n : Nat} {f : Nat → Bool} (h : ∀ i, i < n → f i = true) : ((List.range n).map f).all id = true := by
  rw [List.all_eq_true]
  intro b hb
  obtain ⟨i, hi, rfl⟩ := List.mem_map.mp hb
  exact h i (List.mem_range.mp hi)
/-- the same, over something made on the way -/
theorem x_lcB0 {wi : TI} {te : TE} {vs : List Nat} {j : Nat} {Q : VK} {σ : L2.St} {H : Hp} {xs : List V} (f : Nat → Bool) (hn : xs.length ≤ 100000)
    (hw : ∀ R : It → Hp → Prop, (∀ (J : It) (G : Hp → Prop) (H1 : Hp), Same H H1 → Walk J xs.length G (YAt xs) → (∀ H', Same H1 H' → G H') → R J H1) → wi σ H R) (hv : ∀ x, wipe ((wipe σ vs).set j (some x)) vs = wipe σ vs)
    (he : ∀ (i : Nat) x H', Same H H' → xs[i]? = some x → ∀ R : VK, (∀ H2, Same H' H2 → R (.bl (f i)) H2) → te ((wipe σ vs).set j (some x)) H' R)
    (hd : ∀ p H', Same H H' → H' p = some (.lst (((List.range xs.length).map f).map V.bl)) → Q (.ref p) H') : tLc wi (gName j) tYes te vs σ H Q := by
  refine hw _ fun J G H1 s1 w hG => ?_
  exact x_lcB (wi := fun _ H R => R J H) (H := H1) f (fun R r => r) w hn hG hv (fun i x H' s hx R hR => he i x H' (s1.trans s) hx R hR) fun p H' _ s h => hd p H' (s1.trans s) h
end Br

/-! ### zip of a tuple and a list -/
namespace Br
open PySem PySem.Spec PyProof.Rows L2
def ItzX (K : PySem.W.Frag) (a b : Addr) : It where
  go := fun i H => ∃ (xs ys : List V), SqT K H a xs ∧ SqL K H b ys ∧ i < xs.length ∧ i < ys.length
  yld := fun i H v H' => ∃ (p : Addr) (x y : V), v = .ref p ∧ H p = none ∧ H' = upd H p (.tup [x, y]) ∧ (∀ xs, SqT K H a xs → xs[i]? = some x) ∧ (∀ ys, SqL K H b ys → ys[i]? = some y)
  stop := fun i H => ∃ (xs ys : List V), SqT K H a xs ∧ SqL K H b ys ∧ i ≤ xs.length ∧ i ≤ ys.length ∧ (i = xs.length ∨ i = ys.length)
def MixSx (a b z p q i1 i2 : Addr) (i : Nat) (h : Heap) : Prop :=
  IsZip h z p q .none ∧ IsTupOf2 h p (.ref i1) (.ref i2) ∧ (∃ u v, IsTupOf2 h q u v) ∧ h.IsTupleIter i1 a i ∧ h.IsListIter i2 b i
theorem MixSx.sizes {a b z p q i1 i2 : Addr} {i : Nat} {h : Heap} (m : MixSx a b z p q i1 i2 i h) : z < h.objs.size ∧ p < h.objs.size ∧ q < h.objs.size ∧ i1 < h.objs.size ∧ i2 < h.objs.size := by
  obtain ⟨e1, e2, ⟨_, _, e3⟩, ⟨_, e4, _⟩, ⟨_, e5, _⟩⟩ := m
  exact ⟨Heap.lt_size e1, Heap.lt_size e2, Heap.lt_size e3, Heap.lt_size e4, Heap.lt_size e5⟩
theorem turn_mx {P : Program} {w : World} {K : PySem.W.Frag} {elts : List Expr} {kk : Nat} {tpos : Pos} {a b z p q i1 i2 : Addr} (S : ZipSep2 z p q i1 i2 [i1, a] [i2, b]) :
    Turn P w K (.Tuple elts kk tpos) (ItzX K a b) [z, p, q, i1, i2] z (MixSx a b z p q i1 i2) := by
  have ha : a ≠ i1 ∧ b ≠ i2 ∨ True := .inr trivial
  refine ⟨by simp, ?obj, ?keep, ?item, ?done, ?self⟩
  case obj =>
    intro i h st c hc
    obtain ⟨e1, e2, ⟨_, _, e3⟩, ⟨o4, e4, _, d4⟩, ⟨o5, e5, _, d5⟩⟩ := st
    rcases in5 hc with rfl | rfl | rfl | rfl | rfl
    · exact ⟨_, e1, fun _ z => nomatch z⟩
    · exact ⟨_, e2, fun _ z => nomatch z⟩
    · exact ⟨_, e3, fun _ z => nomatch z⟩
    · exact ⟨_, e4, fun _ z => by rw [d4] at z; cases z⟩
    · exact ⟨_, e5, fun _ z => by rw [d5] at z; cases z⟩
  case keep =>
    intro i h h' st k
    obtain ⟨e1, e2, ⟨u, v, e3⟩, e4, e5⟩ := st
    exact ⟨k _ (by simp) _ e1, k _ (by simp) _ e2, ⟨u, v, k _ (by simp) _ e3⟩, e4.at fun o => k _ (by simp) o, e5.at fun o => k _ (by simp) o⟩
  case item =>
    intro X hP hw hK hc i pins s σ H E I hf st hg
    subst hP hw hK
    have sz := st.sizes
    obtain ⟨e1, e2, ⟨u, v, e3⟩, e4, e5⟩ := st
    obtain ⟨xs, ys, hx, hy, lx, ly⟩ := hg
    obtain ⟨us, rx, p1, _⟩ := I.tuple hx
    obtain ⟨ws, ry, p2, _⟩ := I.list hy
    have nx := rx.length
    have ny := ry.length
    have hd : X.A.in1.handled = none := I.ok.hd hc
    have na : a ≠ i1 := fun e => by
      obtain ⟨o, eo, co, _⟩ := e4
      obtain ⟨o', eo', co', _⟩ := p1
      rw [e, eo] at eo'
      cases eo'
      rw [co] at co'
      simp at co'
    have nb : b ≠ i2 := fun e => by
      obtain ⟨o, eo, co, _⟩ := e5
      obtain ⟨o', _, eo', co', _⟩ := p2
      rw [e, eo] at eo'
      cases eo'
      rw [co] at co'
      simp at co'
    refine wpAny_pyNext_zipD2_item S (Draws.tuple hd i1 a na us.toArray) (Draws.list hd i2 b nb ws.toArray) e1 e2 e3 ⟨e4, p1⟩ ⟨e5, p2.isList⟩ (by simp; omega) (by simp; omega) ?_
    intro x1 x2 h1 tk q1 q2 z1 t1 s1 s2 nw hs hk
    refine ⟨_, rfl, wpAny_letOwnedTupleGo_zip (s := { s with heap := h1, toks := tk }) z1 fun h2 z2 sb => ?_⟩
    obtain ⟨x, gx⟩ : ∃ x, xs[i]? = some x := ⟨_, List.getElem?_eq_getElem lx⟩
    obtain ⟨y, gy⟩ : ∃ y, ys[i]? = some y := ⟨_, List.getElem?_eq_getElem ly⟩
    obtain ⟨ux, gux, rux⟩ := rx.get gx
    obtain ⟨uy, guy, ruy⟩ := ry.get gy
    have ex : x1 = ux := by
      rw [List.getElem?_toArray, gux] at q1
      exact (Option.some.inj q1).symm
    have ey : x2 = uy := by
      rw [List.getElem?_toArray, guy] at q2
      exact (Option.some.inj q2).symm
    subst ex ey
    have ne : ∀ {c : Addr}, c < s.heap.objs.size → s.heap.objs.size ≠ c := fun h => Nat.ne_of_gt h
    have new2 : h2.get? s.heap.objs.size = some { cls := .type "tuple", data := .seq #[x1, x2] } := (sb.2 _ (ne sz.1)).trans nw
    have kp : ∀ c o, c ∉ [z, p, q, i1, i2] → s.heap.get? c = some o → h2.get? c = some o := fun c o hc e => by
      have m : ∀ d, d ∈ [z, p, q, i1, i2] → c ≠ d := fun d hd e => hc (e ▸ hd)
      exact (sb.2 c (m z (by simp))).trans (hk c o (m z (by simp)) (m q (by simp)) (m i1 (by simp)) (m i2 (by simp)) e)
    have ok : ObjOk X.prog X.w (upd H s.heap.objs.size (.tup [x, y])) h2 s.heap.objs.size (.tup [x, y]) :=
      ⟨(show 2 ≤ sizeLine by decide), [x1, x2], .cons rux (.cons ruy .nil), ⟨_, new2, rfl, 0, rfl⟩⟩
    have J := I.turnedNew (t' := tk) kp hf (Nat.le_refl _) ok
    refine ⟨.ref s.heap.objs.size, _, J, rfl, ⟨_, x, y, rfl, I.hok.fresh (Nat.le_refl _), rfl, fun l hl => by rw [I.tuple_inj hl hx]; exact gx, fun l hl => by rw [I.list_inj hl hy]; exact gy⟩, ?_, fun c hcm => ?_⟩
    · refine ⟨z2, (sb.2 _ S.TIz).trans (hk _ _ S.TIz S.TITO S.TIi1 S.TIi2 e2), ⟨_, _, (sb.2 _ S.TOz).trans t1⟩, s1.1.at fun o e => (sb.2 _ S.zi1.symm).trans e, s2.1.at fun o e => (sb.2 _ S.zi2.symm).trans e⟩
    · rw [upd_ne]
      · exact (hf c hcm).1
      · rcases in5 hcm with rfl | rfl | rfl | rfl | rfl
        · exact (ne sz.1).symm
        · exact (ne sz.2.1).symm
        · exact (ne sz.2.2.1).symm
        · exact (ne sz.2.2.2.1).symm
        · exact (ne sz.2.2.2.2).symm
  case done =>
    intro X hP hw hK hc i pins s σ H E I hf st hg
    subst hP hw hK
    obtain ⟨e1, e2, ⟨u, v, e3⟩, e4, e5⟩ := st
    obtain ⟨xs, ys, hx, hy, lx, ly, hend⟩ := hg
    obtain ⟨us, rx, p1, _⟩ := I.tuple hx
    obtain ⟨ws, ry, p2, _⟩ := I.list hy
    have nx := rx.length
    have ny := ry.length
    have hd : X.A.in1.handled = none := I.ok.hd hc
    have na : a ≠ i1 := fun e => by
      obtain ⟨o, eo, co, _⟩ := e4
      obtain ⟨o', eo', co', _⟩ := p1
      rw [e, eo] at eo'
      cases eo'
      rw [co] at co'
      simp at co'
    have nb : b ≠ i2 := fun e => by
      obtain ⟨o, eo, co, _⟩ := e5
      obtain ⟨o', _, eo', co', _⟩ := p2
      rw [e, eo] at eo'
      cases eo'
      rw [co] at co'
      simp at co'
    refine wpAny_pyNext_zipD2_end S (Draws.tuple hd i1 a na us.toArray) (Draws.list hd i2 b nb ws.toArray) e1 e2 e3 ⟨e4, p1⟩ ⟨e5, p2.isList⟩ (by simp; omega) (by simp; omega) (by simp; omega) ?_
    intro h1 tk hk
    exact ⟨rfl, I.turnedL (t' := tk) (ch := [z, p, q, i1, i2]) (fun c o hc e => by
      have m : ∀ d, d ∈ [z, p, q, i1, i2] → c ≠ d := fun d hd e => hc (e ▸ hd)
      exact hk c o (m z (by simp)) (m q (by simp)) (m i1 (by simp)) (m i2 (by simp)) e) hf⟩
  case self => exact fun A i s Q E st h => wpAny_pyIter_zip st.1 h
def iZipX (K : PySem.W.Frag) (ta : TA) : TI := fun σ H R => ta σ H fun vs H1 => ∃ a b xs ys, vs = [.ref a, .ref b] ∧ SqT K H1 a xs ∧ SqL K H1 b ys ∧ R (ItzX K a b) H1
theorem pi_zipX {X : Cx} {e e2 : Expr} {ta : TA} {p pos tpos : Pos} {elts : List Expr} {kk : Nat} (hg : Gl X "zip") (hm : X.mg "zip" = none) (ha : PA X [e, e2] ta)
    (hs : starEach [e, e2] X.env = (false, eval e X.env) :: starEach [e2] X.env := by rfl) (hpl : (backTo pos (starEach [e2] X.env)).any (·.1) = false := by rfl) :
    PI X (.Tuple elts kk tpos) (.Call (.Name "zip" p) [e, e2] [] pos) (iZipX X.K ta) := by
  refine ⟨fun pins s σ H R I h => Call_ (ld_blt I hg hm PyProof.Rows.boot_zip (PyProof.Rows.callWith_type1 (thn (ha.run pos pins s σ H _ I h) ?_) hs hpl))⟩
  rintro us s1 ⟨vs, H1, I1, r1, a, b, xs, ys, rfl, hx, hy, go⟩
  obtain ⟨u1, u2, rfl, ra, rb⟩ : ∃ u1 u2, us = [u1, u2] ∧ RelV (.ref a) u1 ∧ RelV (.ref b) u2 := by
    cases r1 with
    | cons r rr =>
      cases rr with
      | cons r' rr =>
        cases rr
        exact ⟨_, _, rfl, r, r'⟩
  cases (show u1 = Value.ref a from ra)
  cases (show u2 = Value.ref b from rb)
  obtain ⟨us, rx, p1, _⟩ := I1.tuple hx
  obtain ⟨ws, ry, p2, _⟩ := I1.list hy
  have la : a < s1.heap.objs.size := by
    obtain ⟨_, e, _⟩ := id p1
    exact Heap.lt_size e
  have lb : b < s1.heap.objs.size := p2.lt
  refine zip_begins2 (begins_tuple a us.toArray) (begins_list b ws.toArray) p1 p2.isList ?_
  intro h1 hz hp hq g1 g2 hsz hk
  refine wpAny_pyIter_zip hz ?_
  have sep := zip_sep2 (N := s1.heap.objs.size) (fp1 := [a]) (fp2 := [b]) (fun c hc => by
    have e : c = a := by simpa using hc
    rw [e]; exact la) (fun c hc => by
    have e : c = b := by simpa using hc
    rw [e]; exact lb)
  refine ⟨_, _, _, _, H1, rfl, I1.kept (t' := s1.toks) hk, turn_mx sep, ⟨hz, hp, ⟨_, _, hq⟩, ⟨_, g1, rfl, rfl⟩, ⟨_, g2, rfl, rfl⟩⟩, fun c hc => ?_, go⟩
  have hle : s1.heap.objs.size ≤ c := by
    rcases in5 hc with e | e | e | e | e
    · rw [e]; exact Nat.le_add_right _ _
    · rw [e]; exact Nat.le_add_right _ _
    · rw [e]; exact Nat.le_add_right _ _
    · rw [e]; exact Nat.le_refl _
    · rw [e]; exact Nat.le_add_right _ _
  exact I1.fpOk hle (I1.hok.fresh hle)
theorem walk_mx {K : PySem.W.Frag} {a b : Addr} {xs ys : List V} {n : Nat} (h1 : xs.length = n) (h2 : ys.length = n) : Walk (ItzX K a b) n (fun H => SqT K H a xs ∧ SqL K H b ys) (YPair (fun i => xs[i]?) (fun i => ys[i]?)) := by
  refine ⟨fun i H hi q => ⟨xs, ys, q.1, q.2, by omega, by omega⟩, fun H q => ⟨xs, ys, q.1, q.2, by omega, by omega, by omega⟩, fun i H v H' hi q y => ?_⟩
  obtain ⟨p, x, y, e1, e2, e3, e4, e5⟩ := y
  exact ⟨p, x, y, e1, e2, e3, e4 _ q.1, e5 _ q.2⟩
end Br

/-! ### tables in the heap -/
namespace Br
open PySem PySem.Spec PyProof.Rows L2 Br.F
theorem map_app {xs : List Int} {y : Int} {H : Hp} {a : Addr} : (L2.upd H a (.lst (xs.map V.int ++ [.int y]))) a = some (.lst ((xs ++ [y]).map V.int)) := by rw [upd_same, List.map_append]; rfl
def TabAt (K : PySem.W.Frag) (H : Hp) (a : Addr) (t : List (List Int)) : Prop := ∃ as : List Addr, SqT K H a (as.map V.ref) ∧ as.length = t.length ∧ ∀ (i : Nat) r b, t[i]? = some r → as[i]? = some b → SqT K H b (r.map V.int)
theorem TabAt.same {K : PySem.W.Frag} {H H' : Hp} {a : Addr} {t : List (List Int)} (h : TabAt K H a t) (s : Same H H') : TabAt K H' a t := by
  obtain ⟨as, h1, h2, h3⟩ := h
  exact ⟨as, seqT s h1, h2, fun i r b e1 e2 => seqT s (h3 i r b e1 e2)⟩
structure IsTab (p : Nat) (t : List (List Int)) : Prop where
  pos : 1 ≤ t.length
  le : t.length ≤ p
  rows : ∀ (i : Nat) r, t[i]? = some r → r.length = t.length ∧ Rg 0 p r
theorem get_getD {l : List Int} {i : Nat} (h : i < l.length) : l[i]? = some (l.getD i 0) := by rw [List.getD_eq_getElem?_getD, List.getElem?_eq_getElem h]; rfl
theorem getD_of {l : List Int} {i : Nat} {z : Int} (h : l[i]? = some z) : l.getD i 0 = z := by rw [List.getD_eq_getElem?_getD, h]; rfl
theorem dvd_step {p ab U d : Int} (h : p ∣ ab - U) : p ∣ ab * d % p - U * d := by
  obtain ⟨u, hu⟩ := h
  have h4 := Int.mul_ediv_add_emod (ab * d) p
  refine ⟨u * d - ab * d / p, ?_⟩
  have e : ab = U + p * u := by omega
  grind
theorem TabAt.get {K : PySem.W.Frag} {H : Hp} {a : Addr} {t : List (List Int)} {as : List Addr} (h : as.length = t.length) (h3 : ∀ (i : Nat) r b, t[i]? = some r → as[i]? = some b → SqT K H b (r.map V.int)) {i : Nat} (hi : i < t.length) : ∃ r b, t[i]? = some r ∧ as[i]? = some b ∧ SqT K H b (r.map V.int) :=
  ⟨_, _, List.getElem?_eq_getElem hi, List.getElem?_eq_getElem (by omega), h3 i _ _ (List.getElem?_eq_getElem hi) (List.getElem?_eq_getElem (by omega))⟩
end Br

/-! ### match over tuples that begin with a word -/
namespace Br
open PySem PySem.Spec PyProof.Rows L2
/-- the values that captures bind, by name -/
def capB : List Pattern → List Value → List (Str × Value)
  | .MatchAs none (some x) _ :: ps, u :: us => (x, u) :: capB ps us
  | .MatchAs none none _ :: ps, _ :: us => capB ps us
  | _, _ => []
def isCaps : List Pattern → Bool
  | [] => true
  | .MatchAs none _ _ :: ps => isCaps ps
  | _ => false
/-- the slots behind captures -/
def bindS : List (Option Nat) → List V → L2.St → L2.St
  | some i :: is, v :: vs, σ => bindS is vs (σ.set i (some v))
  | none :: is, _ :: vs, σ => bindS is vs σ
  | _, _, σ => σ
theorem each_caps {M : Model} {A : Around} {E : Value → Shared → Prop} {s : Shared} {env : Env} : ∀ {ps : List Pattern} {us : List Value} {Q : Option (List (Str × Value)) → Shared → Prop}, isCaps ps = true → us.length = ps.length → Q (some (capB ps us)) s → wpAny M A (matchEach ps env us) Q E s
  | [], us, Q, _, _, h => by
    have e : capB [] us = [] := by cases us <;> rfl
    rw [e] at h
    exact wpAny_matchEach_nil h
  | .MatchAs none nm pos :: ps, u :: us, Q, hc, hl, h => by
    refine wpAny_matchEach_cons (wpAny_matchPattern_Capture (each_caps (ps := ps) hc (by simpa using hl) ?_)) rfl
    cases nm with
    | none => exact h
    | some x => exact h
  | .MatchAs none nm pos :: ps, [], Q, hc, hl, h => by simp at hl
  | .MatchAs (some p) nm pos :: ps, us, Q, hc, hl, h => by simp [isCaps] at hc
  | .MatchValue .. :: ps, us, Q, hc, hl, h => by simp [isCaps] at hc
  | .MatchSingleton .. :: ps, us, Q, hc, hl, h => by simp [isCaps] at hc
  | .MatchSequence .. :: ps, us, Q, hc, hl, h => by simp [isCaps] at hc
  | .MatchMapping .. :: ps, us, Q, hc, hl, h => by simp [isCaps] at hc
  | .MatchClass .. :: ps, us, Q, hc, hl, h => by simp [isCaps] at hc
  | .MatchStar .. :: ps, us, Q, hc, hl, h => by simp [isCaps] at hc
  | .MatchOr .. :: ps, us, Q, hc, hl, h => by simp [isCaps] at hc
/-- captures into slots -/
structure PCap (X : Cx) (ps : List Pattern) (is : List (Option Nat)) : Prop where
  caps : isCaps ps = true
  run : ∀ (pins : List (Addr × Obj)) (s : Shared) (σ : L2.St) (H : Hp) (vs : List V) (us : List Value), Inv X pins σ H s → Vals vs us → us.length = ps.length →
    wpAny (model X.prog X.w) X.A (assignInOrder ((capB ps us).map fun (n, _) => bindName X.env n) ((capB ps us).map (·.2))) (fun _ s' => Inv X pins (bindS is vs σ) H s') X.xe s
section
variable {X : Cx}
theorem pcap_nil : PCap X [] [] := ⟨rfl, fun pins s σ H vs us I r hl => by
  have e : us = [] := List.length_eq_zero_iff.mp hl
  subst e
  cases r
  exact wpAny_assignInOrder_none I⟩
theorem pcap_name (i : Nat) {x : Str} {pos : Pos} {ps : List Pattern} {is : List (Option Nat)} (hN : X.N.Nodup) (hi : X.N[i]? = some x) (hx : Loc X.env.scope x) (h : PCap X ps is) (hf : X.fn x = true ∨ X.env.scope.names.lookup x = some .local := by first | exact .inl rfl | exact .inr rfl) :
    PCap X (.MatchAs none (some x) pos :: ps) (some i :: is) := ⟨h.caps, fun pins s σ H vs us I r hl => by
  cases r with
  | nil => simp at hl
  | cons rv rr =>
    refine wpAny_assignInOrder_more (wpAny_bindName (store_ok I hN hi hx rv (fun s' I' => ?_) hf))
    exact h.run pins s' _ H _ _ I' rr (by simpa using hl)⟩
theorem pcap_wild {pos : Pos} {ps : List Pattern} {is : List (Option Nat)} (h : PCap X ps is) : PCap X (.MatchAs none none pos :: ps) (none :: is) := ⟨h.caps, fun pins s σ H vs us I r hl => by
  cases r with
  | nil => simp at hl
  | cons rv rr => exact h.run pins s _ H _ _ I rr (by simpa using hl)⟩
/-- the cases of a match, asked of a value -/
structure PCs (X : Cx) (cs : List MatchCase) (t : V → TS) : Prop where
  run : ∀ (first : Bool) (pins : List (Addr × Obj)) (s : Shared) (σ : L2.St) (H : Hp) (D : Ends) (v : V) (u : Value), Inv X pins σ H s → RelV v u → t v D σ H → wpAny (model X.prog X.w) X.A (matchCases cs X.env u first) (SP X pins D) X.xe s
def tMatch (te : TE) (t : V → TS) : TS := fun D σ H => te σ H fun v H1 => t v D σ H1
theorem ps_match {e : Expr} {te : TE} {cs : List MatchCase} {t : V → TS} {pos : Pos} (he : PE X e te) (hc : PCs X cs t) : PS X (.Match e cs pos) (tMatch te t) :=
  ⟨fun pins s σ H D I h => wpAny_Match (thn (he.run pins s σ H _ I h) fun u s1 ⟨v, H1, I1, r, q⟩ => hc.run true pins s1 σ H1 D v u I1 r q)⟩
def tNoCase : V → TS := fun _ D σ H => D.nx σ H
theorem pcs_nil : PCs X [] tNoCase := ⟨fun _ _ _ σ H _ _ _ I _ h => wpAny_matchCases_nil ⟨σ, H, I, h⟩⟩
def tElse (t : TS) : V → TS := fun _ => t
theorem pcs_else {pos : Pos} {body : List Stmt} {rest : List MatchCase} {t : TS} (hb : PSs X body t) : PCs X (⟨.MatchAs none none pos, none, body⟩ :: rest) (tElse t) :=
  ⟨fun _ pins s σ H D v u I r h => wpAny_matchCases_cons (wpAny_matchPattern_Capture (wpAny_assignInOrder_none (hb.run pins s σ H D I h)))⟩
/-- a tuple of n parts that begins with the word -/
def tSeqW (K : PySem.W.Frag) (r : R2) (n : Nat) (word : Str) (is : List (Option Nat)) (body : TS) (rest : V → TS) : V → TS := fun v D σ H => ∃ (a : Addr) (xs : List V), v = .ref a ∧ SqT K H a xs ∧
  ((xs.length ≠ n ∧ rest v D σ H) ∨ ∃ y ys, xs = y :: ys ∧ xs.length = n ∧ r y (.str word) H fun z H1 => ∃ k, z = .bl k ∧ if k = true then body D (bindS is ys σ) H1 else rest v D σ H1)
theorem pcs_seq {r : R2} {n : Nat} {word : Str} {j : Nat} {p1 p2 p3 : Pos} {ps : List Pattern} {is : List (Option Nat)} {body : List Stmt} {rest : List MatchCase} {tb : TS} {tr : V → TS} (hc : X.calm = true) (ho : OpR X (compareOp .Eq) r) (hp : PCap X ps is) (hb : PSs X body tb) (hr : PCs X rest tr) (hn : ps.length + 1 = n := by rfl)
    (hs : (Pattern.MatchValue (.Constant (.str word) j p1) p2 :: ps).findIdx? (·.isStar) = none := by rfl) (hw : ((Pattern.MatchValue (.Constant (.str word) j p1) p2 :: ps).all fun p => p.isWildcard || (p.isStar && p.names.isEmpty)) = false := by rfl) :
    PCs X (⟨.MatchSequence (.MatchValue (.Constant (.str word) j p1) p2 :: ps) p3, none, body⟩ :: rest) (tSeqW X.K r n word is tb tr) := by
  refine ⟨fun first pins s σ H D v u I rv h => ?_⟩
  obtain ⟨a, xs, rfl, hx, h⟩ := h
  cases (show u = Value.ref a from rv)
  obtain ⟨its, ri, ht, hz⟩ := I.tuple hx
  have hl := ri.length
  have hfit : ((its.toArray.size : Nat) : Int) < 2 ^ 63 := by
    have h1 : its.length ≤ sizeLine := by rw [← hl]; exact hz
    have h2 : sizeLine < 2 ^ 63 := by decide
    have h3 : its.toArray.size < 2 ^ 63 := Nat.lt_of_le_of_lt (by simpa using h1) h2
    omega
  rcases h with ⟨hne, q⟩ | ⟨y, ys, rfl, hxl, q⟩
  · refine wpAny_matchCases_cons (matchSeq_tuple_miss ht hfit (by simp; omega) ?_ hs hw)
    exact hr.run false pins _ σ H D (.ref a) _ (I.tok _) rfl q
  · cases ri with
    | cons ry rys =>
      rename_i uy uys
      have hly := rys.length
      have sz : (uy :: uys).toArray.size = ps.length + 1 := by simp at hxl ⊢; omega
      refine wpAny_matchCases_cons (matchSeq_tuple_hit ht hfit (by simpa using sz) ?_ hs hw)
      have e : (Pattern.MatchValue (.Constant (.str word) j p1) p2 :: ps).length = (uy :: uys).toArray.size := sz.symm
      rw [e]
      refine unpackItems_tuple (I.ok.hd hc) ht fun h' hk => ?_
      have I2 : Inv X pins σ H { s with heap := h', toks := s.toks + 1 + 1 } := I.kept fun b o e => hk b o (Nat.ne_of_lt (Heap.lt_size e)) e
      refine wpAny_matchEach_cons (wpAny_matchPattern_Value ?_) rfl
      refine Calls.Constant_str ?_
      refine thn (ho pins _ σ H y (.str word) uy _ _ (I2.tok _) ry ⟨_, rfl⟩ q) fun c s3 ⟨z, H3, I3, rz, k, ez, q3⟩ => ?_
      subst ez
      cases rz
      refine wpAny_truthy_bool ?_
      cases k with
      | false =>
        rw [if_neg Bool.false_ne_true] at q3 ⊢
        exact hr.run false pins s3 σ H3 D (.ref a) _ I3 rfl q3
      | true =>
        rw [if_pos rfl] at q3 ⊢
        refine each_caps hp.caps (by simp at sz; exact sz) ?_
        refine thn (hp.run pins s3 σ H3 ys uys I3 rys (by simp at sz; exact sz)) fun _ s4 I4 => ?_
        exact hb.run pins s4 _ H3 D I4 q3
end
/-! ### steps of the reading -/
section
variable {σ : L2.St} {H : Hp} {D : Ends} {K : PySem.W.Frag} {v : V} {te : TE} {t : V → TS}
theorem x_match (h : te σ H fun v H1 => t v D σ H1) : tMatch te t D σ H := h
theorem x_else {t : TS} (h : t D σ H) : tElse t v D σ H := h
theorem x_noCase (h : D.nx σ H) : tNoCase v D σ H := h
theorem x_caseNo {r : R2} {n : Nat} {word : Str} {is : List (Option Nat)} {body : TS} {a : Addr} {xs : List V} (ha : SqT K H a xs) (hl : xs.length ≠ n) (h : t (.ref a) D σ H) : tSeqW K r n word is body t (.ref a) D σ H :=
  ⟨a, xs, rfl, ha, .inl ⟨hl, h⟩⟩
theorem x_caseW {n : Nat} {word w : Str} {is : List (Option Nat)} {body : TS} {a : Addr} {ys : List V} (ha : SqT K H a (.str w :: ys)) (hl : ys.length + 1 = n) (hw : w ≠ word) (h : t (.ref a) D σ H) : tSeqW K rEq n word is body t (.ref a) D σ H :=
  ⟨a, _, rfl, ha, .inr ⟨_, ys, rfl, hl, rfl, false, by rw [decide_eq_false (fun e => hw (V.str.inj e))], iteF h⟩⟩
theorem x_caseY {n : Nat} {word : Str} {is : List (Option Nat)} {body : TS} {a : Addr} {ys : List V} (ha : SqT K H a (.str word :: ys)) (hl : ys.length + 1 = n) (h : body D (bindS is ys σ) H) : tSeqW K rEq n word is body t (.ref a) D σ H :=
  ⟨a, _, rfl, ha, .inr ⟨_, ys, rfl, hl, rfl, true, by rw [decide_eq_true rfl], iteT h⟩⟩
end
end Br

/-! ### what `_law_equal` finds alike -/
namespace Br
open PySem PySem.Spec PyProof.Rows L2
/-- alike up to a depth -/
def Eqv (K : PySem.W.Frag) (H : Hp) : Nat → V → V → Prop
  | 0, _, _ => False
  | n + 1, v, u => (∃ i : Int, v = .int i ∧ u = .int i) ∨ (∃ x : Str, v = .str x ∧ u = .str x) ∨ (∃ b : Bool, v = .bl b ∧ u = .bl b) ∨ (v = .non ∧ u = .non) ∨
      (∃ (a b : Addr) (xs ys : List V), v = .ref a ∧ u = .ref b ∧ ((H a = some (.lst xs) ∧ H b = some (.lst ys)) ∨ (H a = some (.tup xs) ∧ H b = some (.tup ys))) ∧ xs.length = ys.length ∧ ys.length ≤ 100000 ∧ ∀ (i : Nat) x y, xs[i]? = some x → ys[i]? = some y → Eqv K H n x y)
theorem Eqv.mono {K : PySem.W.Frag} {H : Hp} : ∀ {n m : Nat} {v u : V}, n ≤ m → Eqv K H n v u → Eqv K H m v u
  | 0, _, _, _, _, h => h.elim
  | n + 1, m, v, u, hm, h => by
    obtain ⟨k, rfl⟩ : ∃ k, m = k + 1 := ⟨m - 1, by omega⟩
    rcases h with h | h | h | h | ⟨a, b, xs, ys, e1, e2, e3, e4, e5, e6⟩
    · exact .inl h
    · exact .inr (.inl h)
    · exact .inr (.inr (.inl h))
    · exact .inr (.inr (.inr (.inl h)))
    · exact .inr (.inr (.inr (.inr ⟨a, b, xs, ys, e1, e2, e3, e4, e5, fun i x y h1 h2 => Eqv.mono (by omega) (e6 i x y h1 h2)⟩)))
theorem Eqv.int {K : PySem.W.Frag} {H : Hp} {n : Nat} {i : Int} : Eqv K H (n + 1) (.int i) (.int i) := .inl ⟨i, rfl, rfl⟩
theorem Eqv.str {K : PySem.W.Frag} {H : Hp} {n : Nat} {x : Str} : Eqv K H (n + 1) (.str x) (.str x) := .inr (.inl ⟨x, rfl, rfl⟩)
theorem Eqv.bl {K : PySem.W.Frag} {H : Hp} {n : Nat} {b : Bool} : Eqv K H (n + 1) (.bl b) (.bl b) := .inr (.inr (.inl ⟨b, rfl, rfl⟩))
theorem Eqv.non {K : PySem.W.Frag} {H : Hp} {n : Nat} : Eqv K H (n + 1) .non .non := .inr (.inr (.inr (.inl ⟨rfl, rfl⟩)))
theorem Eqv.tup {K : PySem.W.Frag} {H : Hp} {n : Nat} {a b : Addr} {xs ys : List V} (h1 : H a = some (.tup xs)) (h2 : H b = some (.tup ys)) (hl : xs.length = ys.length) (hz : ys.length ≤ 100000) (h : ∀ (i : Nat) x y, xs[i]? = some x → ys[i]? = some y → Eqv K H n x y) : Eqv K H (n + 1) (.ref a) (.ref b) :=
  .inr (.inr (.inr (.inr ⟨a, b, xs, ys, rfl, rfl, .inr ⟨h1, h2⟩, hl, hz, h⟩)))
theorem Eqv.lst {K : PySem.W.Frag} {H : Hp} {n : Nat} {a b : Addr} {xs ys : List V} (h1 : H a = some (.lst xs)) (h2 : H b = some (.lst ys)) (hl : xs.length = ys.length) (hz : ys.length ≤ 100000) (h : ∀ (i : Nat) x y, xs[i]? = some x → ys[i]? = some y → Eqv K H n x y) : Eqv K H (n + 1) (.ref a) (.ref b) :=
  .inr (.inr (.inr (.inr ⟨a, b, xs, ys, rfl, rfl, .inl ⟨h1, h2⟩, hl, hz, h⟩)))
theorem Eqv.ints {K : PySem.W.Frag} {H : Hp} {n : Nat} {a b : Addr} {xs : List Int} (h1 : H a = some (.lst (xs.map V.int))) (h2 : H b = some (.lst (xs.map V.int))) (hz : xs.length ≤ 100000) : Eqv K H (n + 2) (.ref a) (.ref b) :=
  Eqv.lst h1 h2 rfl (by rw [List.length_map]; exact hz) fun i x y e1 e2 => by
    rw [e1] at e2
    cases e2
    obtain ⟨z, _, rfl⟩ := map_get e1
    exact .int
/-- a tuple of few parts is alike to itself -/
theorem Eqv.self2 {K : PySem.W.Frag} {H : Hp} {n : Nat} {a : Addr} {xs : List V} (h1 : H a = some (.tup xs)) (hz : xs.length ≤ 100000) (h : ∀ x, x ∈ xs → Eqv K H n x x) : Eqv K H (n + 1) (.ref a) (.ref a) :=
  Eqv.tup h1 h1 rfl hz fun i x y e1 e2 => by
    rw [e1] at e2
    cases e2
    exact h x (List.mem_of_getElem? e1)
end Br

/-! ### steps: what they are, where they stand, what they do -/
namespace Br
open PySem PySem.Spec PyProof.Rows L2 Br.F
inductive Fac where
  | cell (i : Nat)
  | inp (i : Nat)
inductive Stp where
  | add (t : Nat) (c : Int) (fs : List Fac)
  | scale (t : Nat) (u : Int)
  | swap (a b : Nat)
  | tab (t : Nat) (s : Int) (tb : List (List Int)) (a b : Nat)
def FacOk (cells inputs t : Nat) : Fac → Prop
  | .cell i => i < cells ∧ i ≠ t
  | .inp i => i < inputs
def StpOk (m cells inputs : Nat) : Stp → Prop
  | .add t c fs => t < cells ∧ 0 ≤ c ∧ c < m ∧ fs.length ≤ 3 ∧ ∀ f, f ∈ fs → FacOk cells inputs t f
  | .scale t u => t < cells ∧ 0 ≤ u ∧ u < m ∧ Int.gcd u m = 1
  | .swap a b => a < cells ∧ b < cells ∧ a ≠ b
  | .tab t s tb a b => t < cells ∧ a < cells ∧ b < cells ∧ t ≠ a ∧ t ≠ b ∧ a ≠ b ∧ (s = 1 ∨ s = m - 1) ∧ IsTab m tb ∧ tb.length ≤ 1000 ∧ IsPrime m
/-- where they stand: tuples alone -/
def FacAt (H : Hp) (a : Addr) : Fac → Prop
  | .cell i => H a = some (.tup [.str "cell", .int (i : Int)])
  | .inp i => H a = some (.tup [.str "input", .int (i : Int)])
def TbAt (H : Hp) (a : Addr) (t : List (List Int)) : Prop := ∃ as : List Addr, H a = some (.tup (as.map V.ref)) ∧ as.length = t.length ∧ ∀ (i : Nat) r b, t[i]? = some r → as[i]? = some b → H b = some (.tup (r.map V.int))
def StpAt (H : Hp) (a : Addr) : Stp → Prop
  | .add t c fs => ∃ (f : Addr) (as : List Addr), H a = some (.tup [.str "add", .int (t : Int), .int c, .ref f]) ∧ H f = some (.tup (as.map V.ref)) ∧ as.length = fs.length ∧ ∀ (i : Nat) x b, fs[i]? = some x → as[i]? = some b → FacAt H b x
  | .scale t u => H a = some (.tup [.str "scale", .int (t : Int), .int u])
  | .swap i j => H a = some (.tup [.str "swap", .int (i : Int), .int (j : Int)])
  | .tab t s tb i j => ∃ c : Addr, H a = some (.tup [.str "table", .int (t : Int), .int s, .ref c, .int (i : Int), .int (j : Int)]) ∧ TbAt H c tb
/-- every tuple stays -/
def Tups (H H' : Hp) : Prop := ∀ b xs, H b = some (.tup xs) → H' b = some (.tup xs)
theorem Tups.refl (H : Hp) : Tups H H := fun _ _ h => h
theorem Tups.trans {H H1 H2 : Hp} (a : Tups H H1) (b : Tups H1 H2) : Tups H H2 := fun c xs h => b c xs (a c xs h)
theorem Tups.same {H H' : Hp} (s : Same H H') : Tups H H' := fun b xs h => s b _ h
theorem Tups.put {H H' : Hp} {p : Addr} {o : HO} (s : Tups H H') (h : ∀ xs, H' p ≠ some (.tup xs)) : Tups H (upd H' p o) := fun b xs e => by
  have e' := s b xs e
  rw [upd_ne (fun z => h xs (by rw [← z]; exact e'))]
  exact e'
theorem no_tup {H : Hp} {p : Addr} (h : H p = none) : ∀ xs, H p ≠ some (.tup xs) := fun xs e => by rw [h] at e; cases e
theorem no_tupL {H : Hp} {p : Addr} {ys : List V} (h : H p = some (.lst ys)) : ∀ xs, H p ≠ some (.tup xs) := fun xs e => by rw [h] at e; cases e
theorem Tups.keep {H H' : Hp} {d : Addr} {ys : List V} (k : Keep d H H') (h : H d = some (.lst ys)) : Tups H H' := fun b xs e => k b _ e (ne_of e h (by intro z; cases z))
theorem FacAt.tups {H H' : Hp} {a : Addr} {f : Fac} (h : FacAt H a f) (s : Tups H H') : FacAt H' a f := by
  cases f with
  | cell i => exact s _ _ h
  | inp i => exact s _ _ h
theorem TbAt.tups {H H' : Hp} {a : Addr} {t : List (List Int)} (h : TbAt H a t) (s : Tups H H') : TbAt H' a t := by
  obtain ⟨as, h1, h2, h3⟩ := h
  exact ⟨as, s _ _ h1, h2, fun i r b e1 e2 => s _ _ (h3 i r b e1 e2)⟩
theorem StpAt.tups {H H' : Hp} {a : Addr} {x : Stp} (h : StpAt H a x) (s : Tups H H') : StpAt H' a x := by
  cases x with
  | add t c fs =>
    obtain ⟨f, as, h1, h2, h3, h4⟩ := h
    exact ⟨f, as, s _ _ h1, s _ _ h2, h3, fun i y b e1 e2 => (h4 i y b e1 e2).tups s⟩
  | scale t u => exact s _ _ h
  | swap i j => exact s _ _ h
  | tab t g tb i j =>
    obtain ⟨c, h1, h2⟩ := h
    exact ⟨c, s _ _ h1, h2.tups s⟩
/-- many of them -/
def StpsAt (H : Hp) (as : List Addr) (ss : List Stp) : Prop := as.length = ss.length ∧ ∀ (i : Nat) x b, ss[i]? = some x → as[i]? = some b → StpAt H b x
theorem StpsAt.tups {H H' : Hp} {as : List Addr} {ss : List Stp} (h : StpsAt H as ss) (s : Tups H H') : StpsAt H' as ss := ⟨h.1, fun i x b e1 e2 => (h.2 i x b e1 e2).tups s⟩
theorem StpsAt.get {H : Hp} {as : List Addr} {ss : List Stp} (h : StpsAt H as ss) {i : Nat} {b : Addr} (e : as[i]? = some b) : ∃ x, ss[i]? = some x ∧ StpAt H b x := by
  have hl := (List.getElem?_eq_some_iff.mp e).1
  have hl2 : i < ss.length := by rw [← h.1]; exact hl
  exact ⟨_, List.getElem?_eq_getElem hl2, h.2 i _ b (List.getElem?_eq_getElem hl2) e⟩
theorem StpsAt.snoc {H : Hp} {as : List Addr} {ss : List Stp} {b : Addr} {x : Stp} (h : StpsAt H as ss) (hx : StpAt H b x) : StpsAt H (as ++ [b]) (ss ++ [x]) := by
  refine ⟨by rw [List.length_append, List.length_append, h.1]; rfl, fun i y c e1 e2 => ?_⟩
  rcases snoc_at rfl e1 with ⟨h1, e1⟩ | ⟨h1, rfl⟩
  · rcases snoc_at rfl e2 with ⟨h2, e2⟩ | ⟨h2, rfl⟩
    · exact h.2 i y c e1 e2
    · have := h.1; omega
  · rcases snoc_at rfl e2 with ⟨h2, e2⟩ | ⟨h2, rfl⟩
    · have := h.1; omega
    · exact hx
/-- numbers of a modulus, so many -/
structure Mem (m n : Nat) (xs : List Int) : Prop where
  len : xs.length = n
  rg : Rg 0 m xs
theorem Mem.get {m n : Nat} {xs : List Int} (h : Mem m n xs) {i : Nat} (hi : i < n) : ∃ z, xs[i]? = some z ∧ xs.getD i 0 = z ∧ 0 ≤ z ∧ z < m := by
  have hl : i < xs.length := by rw [h.len]; exact hi
  refine ⟨xs[i], List.getElem?_eq_getElem hl, ?_, (h.rg _ (List.getElem_mem hl)).1, (h.rg _ (List.getElem_mem hl)).2⟩
  rw [List.getD_eq_getElem?_getD, List.getElem?_eq_getElem hl]; rfl
theorem Mem.set {m n : Nat} {xs : List Int} (h : Mem m n xs) {i : Nat} {z : Int} (h0 : 0 ≤ z) (h1 : z < m) : Mem m n (xs.set i z) :=
  ⟨by rw [List.length_set, h.len], fun y hy => by
    rcases List.mem_or_eq_of_mem_set hy with h2 | h2
    · exact h.rg y h2
    · rw [h2]; exact ⟨h0, h1⟩⟩
def facV (mem inp : List Int) : Fac → Int
  | .cell i => mem.getD i 0
  | .inp i => inp.getD i 0
def prodV (mem inp : List Int) : List Fac → Int
  | [] => 1
  | f :: fs => facV mem inp f * prodV mem inp fs
/-- the value of the table's polynomial, written out -/
def ItpV (p : Nat) (t : List (List Int)) (x y : Int) : Int := S1 (fun i => BsV p t.length i x * S1 (fun j => BsV p t.length j y * (t.getD i []).getD j 0) t.length) t.length % p
theorem ItpV.ok {p : Nat} {t : List (List Int)} {x y : Int} (hp : IsPrime p) (hn : t.length ≤ p) : Itp p t x y (ItpV p t x y) :=
  ⟨fun i => BsV p t.length i x, fun j => BsV p t.length j y, fun i hi => BsV.ok hp hi hn, fun j hj => BsV.ok hp hj hn, rfl⟩
def stepF (m : Nat) (inp mem : List Int) : Stp → List Int
  | .add t c fs => mem.set t ((mem.getD t 0 + c * prodV mem inp fs) % m)
  | .scale t u => mem.set t (mem.getD t 0 * u % m)
  | .swap a b => (mem.set a (mem.getD b 0)).set b (mem.getD a 0)
  | .tab t s tb a b => mem.set t ((mem.getD t 0 + s * ItpV m tb (mem.getD a 0) (mem.getD b 0)) % m)
theorem stepF_mem {m cells : Nat} {inp mem : List Int} (hm : 1 ≤ m) (h : Mem m cells mem) : ∀ {s : Stp} {inputs : Nat}, StpOk m cells inputs s → Mem m cells (stepF m inp mem s)
  | .add t c fs, _, _ => h.set (Int.emod_nonneg _ (by omega)) (Int.emod_lt_of_pos _ (by omega))
  | .scale t u, _, _ => h.set (Int.emod_nonneg _ (by omega)) (Int.emod_lt_of_pos _ (by omega))
  | .swap a b, _, ok => by
    obtain ⟨z, _, e1, z0, z1⟩ := h.get ok.1
    obtain ⟨y, _, e2, y0, y1⟩ := h.get ok.2.1
    show Mem m cells ((mem.set a (mem.getD b 0)).set b (mem.getD a 0))
    rw [e1, e2]
    exact (h.set y0 y1).set z0 z1
  | .tab t s tb a b, _, _ => h.set (Int.emod_nonneg _ (by omega)) (Int.emod_lt_of_pos _ (by omega))
def runF (m : Nat) (inp : List Int) (ss : List Stp) (mem : List Int) : List Int := ss.foldl (fun mem s => stepF m inp mem s) mem
theorem runF_snoc {m : Nat} {inp : List Int} {ss : List Stp} {s : Stp} {mem : List Int} : runF m inp (ss ++ [s]) mem = stepF m inp (runF m inp ss mem) s := by
  unfold runF
  rw [List.foldl_append]
  rfl
theorem runF_mem {m cells inputs : Nat} {inp : List Int} (hm : 1 ≤ m) : ∀ {ss : List Stp} {mem : List Int}, Mem m cells mem → (∀ s, s ∈ ss → StpOk m cells inputs s) → Mem m cells (runF m inp ss mem)
  | [], _, h, _ => h
  | s :: ss, mem, h, hs => runF_mem (mem := stepF m inp mem s) hm (stepF_mem hm h (hs s List.mem_cons_self)) fun x hx => hs x (List.mem_cons_of_mem _ hx)
theorem take_snoc {α : Type} {ss : List α} {i : Nat} {s : α} (h : ss[i]? = some s) : ss.take (i + 1) = ss.take i ++ [s] := by rw [List.take_add_one, h]; rfl
theorem FacAt.eqv {K : PySem.W.Frag} {H : Hp} {a : Addr} {f : Fac} (h : FacAt H a f) : Eqv K H 2 (.ref a) (.ref a) := by
  cases f with
  | cell i =>
    exact Eqv.self2 h (Nat.le_of_ble_eq_true rfl) fun x hx => by
      have e : x = .str "cell" ∨ x = .int (i : Int) := by simpa using hx
      rcases e with rfl | rfl
      · exact .str
      · exact .int
  | inp i =>
    exact Eqv.self2 h (Nat.le_of_ble_eq_true rfl) fun x hx => by
      have e : x = .str "input" ∨ x = .int (i : Int) := by simpa using hx
      rcases e with rfl | rfl
      · exact .str
      · exact .int
theorem StpAt.eqv {K : PySem.W.Frag} {H : Hp} {a : Addr} {m cells inputs : Nat} {s : Stp} (ok : StpOk m cells inputs s) (h : StpAt H a s) : Eqv K H 4 (.ref a) (.ref a) := by
  cases s with
  | add t c fs =>
    obtain ⟨f, as, h1, h2, h3, h4⟩ := h
    have hf : Eqv K H 3 (.ref f) (.ref f) := Eqv.self2 h2 (by rw [List.length_map, h3]; have := ok.2.2.2.1; omega) fun x hx => by
      obtain ⟨b, hb, rfl⟩ := List.mem_map.mp hx
      obtain ⟨i, hi⟩ := List.mem_iff_getElem?.mp hb
      have hl := (List.getElem?_eq_some_iff.mp hi).1
      exact (h4 i _ b (List.getElem?_eq_getElem (by omega)) hi).eqv
    exact Eqv.self2 h1 (Nat.le_of_ble_eq_true rfl) fun x hx => by
      have e : x = .str "add" ∨ x = .int (t : Int) ∨ x = .int c ∨ x = .ref f := by simpa using hx
      rcases e with rfl | rfl | rfl | rfl
      · exact .str
      · exact .int
      · exact .int
      · exact hf
  | scale t u =>
    exact Eqv.self2 h (Nat.le_of_ble_eq_true rfl) fun x hx => by
      have e : x = .str "scale" ∨ x = .int (t : Int) ∨ x = .int u := by simpa using hx
      rcases e with rfl | rfl | rfl
      · exact .str
      · exact .int
      · exact .int
  | swap i j =>
    exact Eqv.self2 h (Nat.le_of_ble_eq_true rfl) fun x hx => by
      have e : x = .str "swap" ∨ x = .int (i : Int) ∨ x = .int (j : Int) := by simpa using hx
      rcases e with rfl | rfl | rfl
      · exact .str
      · exact .int
      · exact .int
  | tab t g tb i j =>
    obtain ⟨c, h1, as, h2, h3, h4⟩ := h
    have hlen : tb.length ≤ 1000 := ok.2.2.2.2.2.2.2.2.1
    have hI : IsTab m tb := ok.2.2.2.2.2.2.2.1
    have hc : Eqv K H 3 (.ref c) (.ref c) := Eqv.self2 h2 (by rw [List.length_map, h3]; omega) fun x hx => by
      obtain ⟨b, hb, rfl⟩ := List.mem_map.mp hx
      obtain ⟨i, hi⟩ := List.mem_iff_getElem?.mp hb
      have hl := (List.getElem?_eq_some_iff.mp hi).1
      have hl2 : i < tb.length := by omega
      obtain ⟨hr, _⟩ := hI.rows i _ (List.getElem?_eq_getElem hl2)
      exact Eqv.self2 (h4 i _ b (List.getElem?_eq_getElem hl2) hi) (by rw [List.length_map, hr]; omega) fun x hx => by
        obtain ⟨z, _, rfl⟩ := List.mem_map.mp hx
        exact .int
    exact Eqv.self2 h1 (Nat.le_of_ble_eq_true rfl) fun x hx => by
      have e : x = .str "table" ∨ x = .int (t : Int) ∨ x = .int g ∨ x = .ref c ∨ x = .int (i : Int) ∨ x = .int (j : Int) := by simpa using hx
      rcases e with rfl | rfl | rfl | rfl | rfl | rfl
      · exact .str
      · exact .int
      · exact .int
      · exact hc
      · exact .int
      · exact .int
end Br

/-! ### minus and len of an instance -/
namespace Br
open PySem PySem.Spec PyProof.Rows L2 PySem.Calls
section
variable {X : Cx} {CX : CXT} {k : Nat} {f C : Addr} {fd : FuncData} {ps : List Str} {sp : Sp} {ds : List Value} {dvs : List V} {E : XK}
def rNegM (C : Addr) (sp : Sp) (dvs : List V) (E : XK) : V → Hp → VK → Prop := fun x H Q => ∃ a dx fs, x = .ref a ∧ H a = some (.ins C dx fs) ∧ sp (x :: dvs) H Q E
theorem un_negM (hm : Meth X.K C "__neg__" f) (F : FnOk X.prog X.w X.K X.mg X.base CX k f fd ps sp) (hr : Room k X.A) (hb : Binds X.K fd ps ds) (hd : Vals dvs ds) (hx : Passes CX X E) :
    UnR X (unaryOp .USub) (rNegM C sp dvs E) := by
  intro pins s σ H x u Q I rx q
  obtain ⟨a, dx, fs, rfl, e, q⟩ := q
  obtain rfl : u = Value.ref a := rx
  obtain ⟨mA, O, _⟩ := ins_get I.hok e
  obtain ⟨od, J, hl⟩ := O.look
  unfold unaryOp
  refine wpAny_holding ?_
  exact wpAny_bind (PySem.W.special_fn I.kIn J hm.at_ (beq_iff_eq.mp hm.fn) (wpAny_mono (run_fn (us := [.ref a]) (vs := [.ref a]) F hr hb hd hx I (.cons rfl .nil) q) (fun _ _ z => wpAny_pure z) fun _ _ z => z))
theorem run_in1 {pins : List (Addr × Obj)} {σ : L2.St} {H : Hp} {s : Shared} {Q : VK} {us : List Value} {vs : List V} (F : FnOk X.prog X.w X.K X.mg X.base CX k f fd ps sp) (hr : Room (k + 1) X.A) (hb : Binds X.K fd ps ds) (hd : Vals dvs ds) (hx : Passes CX X E)
    (I : Inv X pins σ H s) (r : Vals vs us) (h : sp (vs ++ dvs) H Q E) : wpAny (model X.prog X.w) X.A.in1 (call (.ref f) us) (EP X pins σ Q) X.xe s := by
  have r2 : Vals (vs ++ dvs) (us ++ ds) := r.append hd
  have hl : (us ++ ds).length = ps.length := by rw [← r2.length]; exact F.len _ _ _ _ h
  refine wpAny_call (codeAny_mono (F.run X.A.in1 X.stack s H ⟨us, []⟩ (us ++ ds) (vs ++ dvs) Q E hr.in1 I.env0.in1 (hb s us I.kIn hl) r2 h) fun r s' hq => ?_)
  cases r with
  | error e => exact hx pins σ H s e s' I hq
  | ok fl =>
    cases fl with
    | ret u =>
      obtain ⟨v, H', I3, rv, q3⟩ := I.after hq
      exact ⟨v, H', I3, rv, q3⟩
    | next => exact False.elim hq
    | brk => exact False.elim hq
    | cont => exact False.elim hq
theorem pe_fldK {K2 : PySem.W.Frag} {e : Expr} {g : Str} {ta : TE} {pos : Pos} (hK : X.K = K2) (he : PE X e ta) (hb : attributeBase e g X.env (eval e X.env) = eval e X.env) : PE X (.Attribute e g pos) (tFld K2 ta g) := by
  subst hK
  exact pe_fld he hb
def rLenM (C : Addr) (sp : Sp) (dvs : List V) (E : XK) : List V → Hp → VK → Prop := fun xs H Q => ∃ a dx fs, xs = [.ref a] ∧ H a = some (.ins C dx fs) ∧ sp (.ref a :: dvs) H (fun v H' => ∃ n : Nat, v = .int (n : Int) ∧ (n : Int) < 2 ^ 63 ∧ Q v H') E
theorem cr_lenM (hm : Meth X.K C "__len__" f) (F : FnOk X.prog X.w X.K X.mg X.base CX k f fd ps sp) (hr : Room (k + 1) X.A) (hb : Binds X.K fd ps ds) (hd : Vals dvs ds) (hx : Passes CX X E) : CallR X (.builtin "len") (rLenM C sp dvs E) := by
  intro pins s σ H xs us Q I r h
  obtain ⟨a, dx, fs, rfl, e, q⟩ := h
  obtain ⟨u, rfl, rx⟩ := vals1 r
  obtain rfl : u = Value.ref a := rx
  obtain ⟨mA, O, _⟩ := ins_get I.hok e
  obtain ⟨od, J, hl⟩ := O.look
  refine Calls.call_function_entry kind_len plain_len entry_len (args_len1 _) ?_
  unfold Builtin.«len»
  refine wpAny_bind (m := oneArg "len" _) (wpAny_pure ?_)
  refine wpAny_bind (m := callSpecial? (.ref a) (PySem.Str.ofString "__len__")) (PySem.W.special_fn I.kIn J hm.at_ (beq_iff_eq.mp hm.fn) (wpAny_mono (run_in1 (us := [.ref a]) (vs := [.ref a]) F hr hb hd hx I (.cons rfl .nil) q) (fun v s' z => ?_) fun _ _ z => z))
  obtain ⟨x, H', I', rx, n, rfl, hn, q⟩ := z
  obtain ⟨t, rfl⟩ := rx
  refine wpAny_bind (wpAny_holding (wpAny_pure ?_))
  refine wpAny_bind (wpAny_letGo ?_)
  show wpAny _ _ (if ((n : Nat) : Int) < 0 then _ else _) _ _ _
  rw [if_neg (by omega)]
  show wpAny _ _ (if ((n : Nat) : Int) ≥ 2 ^ 63 then _ else _) _ _ _
  rw [if_neg (by omega)]
  exact wpAny_bind (wpAny_mkInt (wpAny_pure ⟨_, rfl, .int (n : Int), H', I'.tok _, ⟨_, rfl⟩, q⟩))
end
end Br

/-! ### steps that take back -/
namespace Br
open PySem PySem.Spec PyProof.Rows L2 Br.F
def IsBack (m : Nat) : Stp → Stp → Prop
  | .add t k fs, s' => s' = .add t (((m : Int) - k) % m) fs
  | .scale t u, s' => ∃ v : Int, s' = .scale t v ∧ 0 ≤ v ∧ v < m ∧ v * u % m = 1
  | .swap a b, s' => s' = .swap a b
  | .tab t g tb a b, s' => s' = .tab t ((m : Int) - g) tb a b
theorem mod_is {m : Nat} {x y : Int} (h0 : 0 ≤ x) (h1 : x < m) (h : (m : Int) ∣ y - x) : y % m = x := by
  have e : y % m = x % m := Int.emod_eq_emod_iff_emod_sub_eq_zero.mpr (Int.emod_eq_zero_of_dvd h)
  rw [e, Int.emod_eq_of_lt h0 h1]
theorem mod_ex (m : Nat) (x : Int) : ∃ q : Int, x % m = x - m * q := ⟨x / m, by rw [Int.emod_def]⟩
theorem getD_set_ne {xs : List Int} {i j : Nat} {z : Int} (h : i ≠ j) : (xs.set i z).getD j 0 = xs.getD j 0 := by
  rw [List.getD_eq_getElem?_getD, List.getD_eq_getElem?_getD, List.getElem?_set_ne h]
theorem getD_set_eq {xs : List Int} {i : Nat} {z : Int} (h : i < xs.length) : (xs.set i z).getD i 0 = z := by
  rw [List.getD_eq_getElem?_getD, List.getElem?_set_self h]; rfl
theorem set_getD {xs : List Int} {i : Nat} : xs.set i (xs.getD i 0) = xs := by
  apply List.ext_getElem?
  intro j
  by_cases h : i = j
  · subst h
    by_cases hl : i < xs.length
    · rw [List.getElem?_set_self hl, List.getD_eq_getElem?_getD, List.getElem?_eq_getElem hl]; rfl
    · rw [List.getElem?_eq_none (by rw [List.length_set]; omega), List.getElem?_eq_none (by omega)]
  · rw [List.getElem?_set_ne h]
theorem prodV_set {mv iv : List Int} {t c i : Nat} {z : Int} : ∀ {fs : List Fac}, (∀ f, f ∈ fs → FacOk c i t f) → prodV (mv.set t z) iv fs = prodV mv iv fs
  | [], _ => rfl
  | f :: fs, h => by
    show facV (mv.set t z) iv f * prodV (mv.set t z) iv fs = facV mv iv f * prodV mv iv fs
    rw [prodV_set fun g hg => h g (List.mem_cons_of_mem _ hg)]
    have e : facV (mv.set t z) iv f = facV mv iv f := by
      cases f with
      | cell j => exact getD_set_ne (h _ List.mem_cons_self).2.symm
      | inp j => rfl
    rw [e]
theorem undo_add {m : Nat} {x k P : Int} (h0 : 0 ≤ x) (h1 : x < m) : ((x + k * P) % m + (((m : Int) - k) % m) * P) % m = x := by
  refine mod_is h0 h1 ?_
  obtain ⟨q1, e1⟩ := mod_ex m (x + k * P)
  obtain ⟨q2, e2⟩ := mod_ex m ((m : Int) - k)
  rw [e1, e2]
  exact ⟨P - q1 - q2 * P, by grind⟩
theorem undo_tab {m : Nat} {x g V : Int} (h0 : 0 ≤ x) (h1 : x < m) : ((x + g * V) % m + ((m : Int) - g) * V) % m = x := by
  refine mod_is h0 h1 ?_
  obtain ⟨q1, e1⟩ := mod_ex m (x + g * V)
  rw [e1]
  exact ⟨V - q1, by grind⟩
theorem undo_scale {m : Nat} {x u v : Int} (h0 : 0 ≤ x) (h1 : x < m) (h : v * u % m = 1) : (x * u % m) * v % m = x := by
  refine mod_is h0 h1 ?_
  obtain ⟨q1, e1⟩ := mod_ex m (x * u)
  obtain ⟨q2, e2⟩ := mod_ex m (v * u)
  rw [h] at e2
  rw [e1]
  exact ⟨x * q2 - q1 * v, by grind⟩
theorem stepF_back {m c i : Nat} {iv mv : List Int} {s s' : Stp} (hm : 1 ≤ m) (hv : Mem m c mv) (ok : StpOk m c i s) (h : IsBack m s s') : stepF m iv (stepF m iv mv s) s' = mv := by
  cases s with
  | add t k fs =>
    obtain rfl := h
    obtain ⟨o1, o2, o3, o4, o5⟩ := ok
    obtain ⟨z, gz, ez, z0, z1⟩ := hv.get o1
    have hl : t < mv.length := by rw [hv.len]; exact o1
    show (mv.set t ((mv.getD t 0 + k * prodV mv iv fs) % m)).set t (((mv.set t ((mv.getD t 0 + k * prodV mv iv fs) % m)).getD t 0 + (((m : Int) - k) % m) * prodV (mv.set t ((mv.getD t 0 + k * prodV mv iv fs) % m)) iv fs) % m) = mv
    rw [getD_set_eq hl, prodV_set o5, List.set_set, ez, undo_add z0 z1, ← ez, set_getD]
  | scale t u =>
    obtain ⟨v, rfl, v0, v1, hvu⟩ := h
    obtain ⟨o1, _⟩ := ok
    obtain ⟨z, gz, ez, z0, z1⟩ := hv.get o1
    have hl : t < mv.length := by rw [hv.len]; exact o1
    show (mv.set t (mv.getD t 0 * u % m)).set t ((mv.set t (mv.getD t 0 * u % m)).getD t 0 * v % m) = mv
    rw [getD_set_eq hl, List.set_set, ez, undo_scale z0 z1 hvu, ← ez, set_getD]
  | swap a b =>
    obtain rfl := h
    obtain ⟨o1, o2, o3⟩ := ok
    have ha : a < mv.length := by rw [hv.len]; exact o1
    have hb : b < mv.length := by rw [hv.len]; exact o2
    show (((mv.set a (mv.getD b 0)).set b (mv.getD a 0)).set a (((mv.set a (mv.getD b 0)).set b (mv.getD a 0)).getD b 0)).set b (((mv.set a (mv.getD b 0)).set b (mv.getD a 0)).getD a 0) = mv
    rw [getD_set_eq (by rw [List.length_set]; exact hb), getD_set_ne o3.symm, getD_set_eq ha, List.set_comm _ _ o3, List.set_set, List.set_comm _ _ o3.symm, List.set_set, set_getD, set_getD]
  | tab t g tb a b =>
    obtain rfl := h
    obtain ⟨o1, o2, o3, o4, o5, _⟩ := ok
    obtain ⟨z, gz, ez, z0, z1⟩ := hv.get o1
    have hl : t < mv.length := by rw [hv.len]; exact o1
    generalize hV : ItpV m tb (mv.getD a 0) (mv.getD b 0) = W
    show (mv.set t ((mv.getD t 0 + g * ItpV m tb (mv.getD a 0) (mv.getD b 0)) % m)).set t (((mv.set t ((mv.getD t 0 + g * ItpV m tb (mv.getD a 0) (mv.getD b 0)) % m)).getD t 0 + ((m : Int) - g) * ItpV m tb ((mv.set t ((mv.getD t 0 + g * ItpV m tb (mv.getD a 0) (mv.getD b 0)) % m)).getD a 0) ((mv.set t ((mv.getD t 0 + g * ItpV m tb (mv.getD a 0) (mv.getD b 0)) % m)).getD b 0)) % m) = mv
    rw [getD_set_eq hl, getD_set_ne o4, getD_set_ne o5, hV, List.set_set, ez, undo_tab z0 z1, ← ez, set_getD]
theorem unit_uniq {m : Nat} {u v w : Int} (h1 : v * u % m = 1) (h2 : w * u % m = 1) (v0 : 0 ≤ v) (v1 : v < m) (w0 : 0 ≤ w) (w1 : w < m) : v = w := by
  obtain ⟨q1, e1⟩ := mod_ex m (v * u)
  obtain ⟨q2, e2⟩ := mod_ex m (w * u)
  rw [h1] at e1
  rw [h2] at e2
  have e : v % m = w := mod_is w0 w1 ⟨w * q1 - v * q2, by grind⟩
  rw [← e, Int.emod_eq_of_lt v0 v1]
theorem IsBack.uniq {m : Nat} {s a b : Stp} (h1 : IsBack m s a) (h2 : IsBack m s b) : a = b := by
  cases s with
  | add => exact h1.trans h2.symm
  | swap => exact h1.trans h2.symm
  | tab => exact h1.trans h2.symm
  | scale t u =>
    obtain ⟨v, rfl, v0, v1, hv⟩ := h1
    obtain ⟨w, rfl, w0, w1, hw⟩ := h2
    rw [unit_uniq hv hw v0 v1 w0 w1]
theorem IsBack.symm {m c i : Nat} {s s' : Stp} (ok : StpOk m c i s) (h : IsBack m s s') : IsBack m s' s := by
  cases s with
  | add t k fs =>
    obtain rfl := h
    obtain ⟨o1, o2, o3, _⟩ := ok
    show Stp.add t k fs = .add t (((m : Int) - ((m : Int) - k) % m) % m) fs
    have e : ((m : Int) - ((m : Int) - k) % m) % m = k := by
      refine mod_is o2 o3 ?_
      obtain ⟨q, e⟩ := mod_ex m ((m : Int) - k)
      rw [e]
      exact ⟨q, by grind⟩
    rw [e]
  | scale t u =>
    obtain ⟨v, rfl, v0, v1, hv⟩ := h
    exact ⟨u, rfl, ok.2.1, ok.2.2.1, by rw [Int.mul_comm]; exact hv⟩
  | swap a b =>
    obtain rfl := h
    rfl
  | tab t g tb a b =>
    obtain rfl := h
    show Stp.tab t g tb a b = .tab t ((m : Int) - ((m : Int) - g)) tb a b
    rw [Int.sub_sub_self]
theorem IsBack.ok {m c i : Nat} {s s' : Stp} (hm : 2 ≤ m) (ok : StpOk m c i s) (h : IsBack m s s') : StpOk m c i s' := by
  cases s with
  | add t k fs =>
    obtain rfl := h
    obtain ⟨o1, o2, o3, o4, o5⟩ := ok
    exact ⟨o1, Int.emod_nonneg _ (by omega), Int.emod_lt_of_pos _ (by omega), o4, o5⟩
  | scale t u =>
    obtain ⟨v, rfl, v0, v1, hv⟩ := h
    refine ⟨ok.1, v0, v1, ?_⟩
    have h1 := Int.gcd_dvd_left (a := v) (b := (m : Int))
    have h2 := Int.gcd_dvd_right (a := v) (b := (m : Int))
    have h3 : ((Int.gcd v m : Nat) : Int) ∣ ((1 : Nat) : Int) := by
      obtain ⟨q, e⟩ := mod_ex m (v * u)
      rw [hv] at e
      obtain ⟨x, hx⟩ := h1
      obtain ⟨y, hy⟩ := h2
      generalize ((Int.gcd v m : Nat) : Int) = G at hx hy
      refine ⟨x * u - y * q, ?_⟩
      rw [Int.mul_sub, ← Int.mul_assoc, ← Int.mul_assoc, ← hx, ← hy]
      exact e
    exact Nat.dvd_one.mp (Int.ofNat_dvd.mp h3)
  | swap a b =>
    obtain rfl := h
    exact ok
  | tab t g tb a b =>
    obtain rfl := h
    obtain ⟨o1, o2, o3, o4, o5, o6, o7, o8, o9, o10⟩ := ok
    exact ⟨o1, o2, o3, o4, o5, o6, by omega, o8, o9, o10⟩
inductive BackOf (m : Nat) : List Stp → List Stp → Prop
  | nil : BackOf m [] []
  | cons {s s' : Stp} {ss ss' : List Stp} : IsBack m s s' → BackOf m ss ss' → BackOf m (s :: ss) (ss' ++ [s'])
theorem BackOf.snoc {m : Nat} {x y : Stp} {xs ys : List Stp} (h : BackOf m xs ys) (hb : IsBack m x y) : BackOf m (xs ++ [x]) (y :: ys) := by
  induction h with
  | nil => exact .cons (ss' := []) hb .nil
  | cons h1 _ ih => exact .cons (ss' := y :: _) h1 ih
theorem BackOf.len {m : Nat} {xs ys : List Stp} (h : BackOf m xs ys) : ys.length = xs.length := by
  induction h with
  | nil => rfl
  | cons h1 _ ih => rw [List.length_append, List.length_cons, ih]; rfl
theorem BackOf.symm {m c i : Nat} {xs ys : List Stp} (h : BackOf m xs ys) (ok : ∀ s, s ∈ xs → StpOk m c i s) : BackOf m ys xs := by
  induction h with
  | nil => exact .nil
  | cons h1 _ ih => exact (ih fun s hs => ok s (List.mem_cons_of_mem _ hs)).snoc (h1.symm (ok _ List.mem_cons_self))
theorem BackOf.oks {m c i : Nat} {xs ys : List Stp} (hm : 2 ≤ m) (h : BackOf m xs ys) (ok : ∀ s, s ∈ xs → StpOk m c i s) : ∀ s, s ∈ ys → StpOk m c i s := by
  induction h with
  | nil => exact ok
  | cons h1 _ ih =>
    intro s hs
    rcases List.mem_append.mp hs with h | h
    · exact ih (fun s hs => ok s (List.mem_cons_of_mem _ hs)) s h
    · rw [List.mem_singleton.mp h]
      exact h1.ok hm (ok _ List.mem_cons_self)
theorem BackOf.uniq {m : Nat} {xs ys : List Stp} (h : BackOf m xs ys) : ∀ {zs : List Stp}, BackOf m xs zs → ys = zs := by
  induction h with
  | nil => intro zs h; cases h; rfl
  | cons h1 _ ih =>
    intro zs h
    cases h with
    | cons h2 h3 => rw [ih h3, h1.uniq h2]
theorem runF_app {m : Nat} {iv : List Int} {xs ys : List Stp} {mv : List Int} : runF m iv (xs ++ ys) mv = runF m iv ys (runF m iv xs mv) := by
  unfold runF
  rw [List.foldl_append]
theorem runF_back {m c i : Nat} {iv : List Int} {xs ys : List Stp} (hm : 1 ≤ m) (h : BackOf m xs ys) : ∀ {mv : List Int}, Mem m c mv → (∀ s, s ∈ xs → StpOk m c i s) → runF m iv ys (runF m iv xs mv) = mv := by
  induction h with
  | nil => intro mv _ _; rfl
  | @cons s s' ss ss' h1 _ ih =>
    intro mv hv ok
    have oks := ok s List.mem_cons_self
    show runF m iv (ss' ++ [s']) (runF m iv ss (stepF m iv mv s)) = mv
    rw [runF_snoc, ih (stepF_mem hm hv oks) fun s hs => ok s (List.mem_cons_of_mem _ hs), stepF_back hm hv oks h1]
/-- two that are the same step -/
theorem FacAt.eqv2 {K : PySem.W.Frag} {H : Hp} {a b : Addr} {f : Fac} (h : FacAt H a f) (h' : FacAt H b f) : Eqv K H 2 (.ref a) (.ref b) := by
  cases f with
  | cell i =>
    refine Eqv.tup h h' rfl (Nat.le_of_ble_eq_true rfl) fun j x y e1 e2 => ?_
    rw [e1] at e2
    cases e2
    have hx := List.mem_of_getElem? e1
    have e : x = .str "cell" ∨ x = .int (i : Int) := by simpa using hx
    rcases e with rfl | rfl
    · exact .str
    · exact .int
  | inp i =>
    refine Eqv.tup h h' rfl (Nat.le_of_ble_eq_true rfl) fun j x y e1 e2 => ?_
    rw [e1] at e2
    cases e2
    have hx := List.mem_of_getElem? e1
    have e : x = .str "input" ∨ x = .int (i : Int) := by simpa using hx
    rcases e with rfl | rfl
    · exact .str
    · exact .int
theorem StpAt.eqv2 {K : PySem.W.Frag} {H : Hp} {a b : Addr} {m cells inputs : Nat} {s : Stp} (ok : StpOk m cells inputs s) (h : StpAt H a s) (h' : StpAt H b s) : Eqv K H 4 (.ref a) (.ref b) := by
  cases s with
  | add t c fs =>
    obtain ⟨f, as, h1, h2, h3, h4⟩ := h
    obtain ⟨f', as', h1', h2', h3', h4'⟩ := h'
    have hf : Eqv K H 3 (.ref f) (.ref f') := by
      refine Eqv.tup h2 h2' (by rw [List.length_map, List.length_map]; omega) (by rw [List.length_map, h3']; have := ok.2.2.2.1; omega) fun j x y e1 e2 => ?_
      obtain ⟨p, hp, rfl⟩ := map_getR e1
      obtain ⟨p', hp', rfl⟩ := map_getR e2
      have hl := (List.getElem?_eq_some_iff.mp hp).1
      have g := List.getElem?_eq_getElem (l := fs) (i := j) (by omega)
      exact (h4 j _ p g hp).eqv2 (h4' j _ p' g hp')
    refine Eqv.tup h1 h1' rfl (Nat.le_of_ble_eq_true rfl) fun j x y e1 e2 => ?_
    match j, e1, e2 with
    | 0, e1, e2 => cases e1; cases e2; exact .str
    | 1, e1, e2 => cases e1; cases e2; exact .int
    | 2, e1, e2 => cases e1; cases e2; exact .int
    | 3, e1, e2 => cases e1; cases e2; exact hf
    | j + 4, e1, _ => simp at e1
  | scale t u =>
    refine Eqv.tup h h' rfl (Nat.le_of_ble_eq_true rfl) fun j x y e1 e2 => ?_
    match j, e1, e2 with
    | 0, e1, e2 => cases e1; cases e2; exact .str
    | 1, e1, e2 => cases e1; cases e2; exact .int
    | 2, e1, e2 => cases e1; cases e2; exact .int
    | j + 3, e1, _ => simp at e1
  | swap i k =>
    refine Eqv.tup h h' rfl (Nat.le_of_ble_eq_true rfl) fun j x y e1 e2 => ?_
    match j, e1, e2 with
    | 0, e1, e2 => cases e1; cases e2; exact .str
    | 1, e1, e2 => cases e1; cases e2; exact .int
    | 2, e1, e2 => cases e1; cases e2; exact .int
    | j + 3, e1, _ => simp at e1
  | tab t g tb i k =>
    obtain ⟨c, h1, as, h2, h3, h4⟩ := h
    obtain ⟨c', h1', as', h2', h3', h4'⟩ := h'
    have hlen : tb.length ≤ 1000 := ok.2.2.2.2.2.2.2.2.1
    have hI : IsTab m tb := ok.2.2.2.2.2.2.2.1
    have hc : Eqv K H 3 (.ref c) (.ref c') := by
      refine Eqv.tup h2 h2' (by rw [List.length_map, List.length_map]; omega) (by rw [List.length_map, h3']; omega) fun j x y e1 e2 => ?_
      obtain ⟨p, hp, rfl⟩ := map_getR e1
      obtain ⟨p', hp', rfl⟩ := map_getR e2
      have hl := (List.getElem?_eq_some_iff.mp hp).1
      have hl2 : j < tb.length := by omega
      have gr := List.getElem?_eq_getElem hl2
      obtain ⟨hr, _⟩ := hI.rows j _ gr
      refine Eqv.tup (h4 j _ p gr hp) (h4' j _ p' gr hp') rfl (by rw [List.length_map, hr]; omega) fun j2 x y e1 e2 => ?_
      rw [e1] at e2
      cases e2
      obtain ⟨z, _, rfl⟩ := map_get e1
      exact .int
    refine Eqv.tup h1 h1' rfl (Nat.le_of_ble_eq_true rfl) fun j x y e1 e2 => ?_
    match j, e1, e2 with
    | 0, e1, e2 => cases e1; cases e2; exact .str
    | 1, e1, e2 => cases e1; cases e2; exact .int
    | 2, e1, e2 => cases e1; cases e2; exact .int
    | 3, e1, e2 => cases e1; cases e2; exact hc
    | 4, e1, e2 => cases e1; cases e2; exact .int
    | 5, e1, e2 => cases e1; cases e2; exact .int
    | j + 6, e1, _ => simp at e1
end Br

/-! ### max(xs, default=d) -/
namespace Br
open PySem PySem.Spec PyProof.Rows L2
theorem max_rawD {prog : Program} {w : World} {A : Around} {E : Value → Shared → Prop} {s : Shared} {l : Addr} {its : List Value} {ns : List Int} {d : Value} {Q : Value → Shared → Prop} (hh : A.handled = none) (hl : s.heap.IsList l its.toArray) (hi : IntsAre its ns)
    (h0 : ns = [] → ∀ h' tk, (∀ b o, s.heap.get? b = some o → h'.get? b = some o) → Q d { s with heap := h', toks := tk })
    (h : ∀ h' tk M t', (∀ b o, s.heap.get? b = some o → h'.get? b = some o) → M ∈ ns → (∀ a, a ∈ ns → a ≤ M) → Q (.int M t') { s with heap := h', toks := tk }) : wpAny (model prog w) A (call (.builtin "max") [.ref l] [(Str.ofString "default", d)]) Q E s := by
  obtain ⟨xs, e⟩ := hi.allInts.items
  have hn : numsOf (intItems xs).toList = ns := by rw [← e]; exact hi.numsOf
  rw [nums_intItems] at hn
  subst hn
  rw [e] at hl
  refine call_max_walkD (iter_intList hl fun s₂ e2 st hfp hlI => ?_)
  have keep : ∀ {s' : Shared}, Moved [s.heap.objs.size] (fun a b => b = a) s₂ s' → (∀ b o, s.heap.get? b = some o → s'.heap.get? b = some o) ∧ s' = { s with heap := s'.heap, toks := s'.toks } := by
    intro s' m
    subst e2
    refine ⟨fun b o eb => m.heap b o (fun hb => ?_) (Heap.get?_push_of_some _ eb), ?_⟩
    · have : b = s.heap.objs.size := by simpa using hb
      exact absurd (Heap.lt_size eb) (by rw [this]; exact Nat.lt_irrefl _)
    · have h1 := m.gens
      have h2 := m.drawn
      have h3 := m.os
      cases s'
      cases s
      simp at h1 h2 h3 ⊢
      exact ⟨h1, h2, h3⟩
  refine ⟨_, _, _, _, _, _, _, s.heap, fun i j => decide (numAt xs i > numAt xs j), rfl, (Walks.list (A := A.in1) hh _ l hlI (intItems xs)).toS, st, hfp, ?_, ?_, ?_, ?_⟩
  · intro b o eb hb
    have : b = s.heap.objs.size := by simpa using hb
    exact absurd (Heap.lt_size eb) (by rw [this]; exact Nat.lt_irrefl _)
  · intro b o eb
    subst e2
    exact Heap.get?_push_of_some _ eb
  · intro hz s' m
    obtain ⟨k1, k2⟩ := keep m
    rw [k2]
    refine h0 ?_ _ _ k1
    have : xs.size = 0 := by simpa [intItems] using hz
    have : xs = #[] := Array.eq_empty_of_size_eq_zero this
    rw [this]
    rfl
  · intro hz
    have hsz : 0 < xs.size := by simpa [intItems] using hz
    refine ⟨fun i j vi vj s' Q' E' _ h1 h2 h3 => CmpOf.ints_gt (numAt xs) (fun _ _ => intItems_at) i j vi vj s' Q' E' h1 h2 h3, fun v s' hP m => ?_⟩
    obtain ⟨k1, k2⟩ := keep m
    rw [k2]
    have hP : (intItems xs)[argBest (fun i j => decide (numAt xs i > numAt xs j)) (xs.size - 1)]? = some v := by simpa [intItems] using hP
    obtain ⟨t, rfl⟩ := intItems_at hP
    obtain ⟨h1, h2⟩ := argBest_gt (numAt xs) (xs.size - 1)
    refine h _ _ _ t k1 ?_ fun a ha => ?_
    · rw [numAt_eq]; exact PySem.getD_mem (by rw [List.length_map, Array.length_toList]; omega)
    · obtain ⟨j, hj, rfl⟩ := mem_getD ha
      rw [List.length_map, Array.length_toList] at hj
      rw [← numAt_eq]; exact h2 j (by omega)
/-- max(xs, default=z): z the default -/
def rMaxDf (K : PySem.W.Frag) : List V → List V → Hp → VK → Prop := fun vs zs H Q => ∃ (a : Addr) (ns : List Int) (d : Int), vs = [V.ref a] ∧ zs = [.int d] ∧ SqL K H a (ns.map V.int) ∧ (ns = [] → Q (.int d) H) ∧ ∀ m, m ∈ ns → (∀ y, y ∈ ns → y ≤ m) → Q (.int m) H
theorem cr_maxDf {X : Cx} (hc : X.calm = true) : CallRK X (.builtin "max") [Str.ofString "default"] (rMaxDf X.K) := by
  intro pins s σ H xs zs us ws Q I r1 r2 h
  obtain ⟨a, ns, d, rfl, rfl, hs, q0, q⟩ := h
  obtain ⟨its, rv, hl, _⟩ := I.list hs
  rw [Vals.ref1 r1]
  cases r2 with
  | cons rz rr =>
    cases rr
    exact max_rawD (I.ok.hd hc) hl.isList rv.ints (fun e h' tk hk => ⟨.int d, H, I.kept hk, rz, q0 e⟩) fun h' tk m t' hk h1 h2 => ⟨.int _, H, I.kept hk, ⟨_, rfl⟩, q m h1 h2⟩
theorem x_maxDf {K : PySem.W.Frag} {σ : L2.St} {H : Hp} {Q : VK} {t tk : TA} (h : t σ H fun vs H1 => tk σ H1 fun zs H2 => rMaxDf K vs zs H2 Q) : tCKw (rMaxDf K) t tk σ H Q := h
/-- what is walked within a comprehension, the written part named -/
theorem pi_tupK {X : Cx} {tg : Expr} {K2 : PySem.W.Frag} {l : Expr} {tl : TE} (hK : X.K = K2) (hl : PE X l tl) : PI X tg l (iTup K2 tl) := by
  subst hK
  exact pi_tup hl
theorem pi_listK {X : Cx} {tg : Expr} {K2 : PySem.W.Frag} {l : Expr} {tl : TE} (hK : X.K = K2) (hl : PE X l tl) : PI X tg l (iList K2 tl) := by
  subst hK
  exact pi_list hl
theorem x_maxDfP {K : PySem.W.Frag} {H : Hp} {Q : VK} {a : Addr} {ns : List Int} {d : Int} (hs : SqL K H a (ns.map V.int)) (h : ∀ m, (ns = [] ∧ m = d) ∨ (m ∈ ns ∧ ∀ y, y ∈ ns → y ≤ m) → Q (.int m) H) : rMaxDf K [.ref a] [.int d] H Q :=
  ⟨a, ns, d, rfl, rfl, hs, fun e => h d (.inl ⟨e, rfl⟩), fun m h1 h2 => h m (.inr ⟨h1, h2⟩)⟩
end Br

/-! ### max(t), t a tuple of ints -/
namespace Br
open PySem PySem.Spec PyProof.Rows L2
theorem max_rawT {prog : Program} {w : World} {A : Around} {E : Value → Shared → Prop} {s : Shared} {l : Addr} {its : List Value} {ns : List Int} {Q : Value → Shared → Prop} (hh : A.handled = none) (hl : s.heap.IsTuple l its.toArray) (hi : IntsAre its ns) (hne : 0 < ns.length)
    (h : ∀ h' tk M t', (∀ b o, s.heap.get? b = some o → h'.get? b = some o) → M ∈ ns → (∀ a, a ∈ ns → a ≤ M) → Q (.int M t') { s with heap := h', toks := tk }) : wpAny (model prog w) A (call (.builtin "max") [.ref l]) Q E s := by
  obtain ⟨xs, e⟩ := hi.allInts.items
  have hn : numsOf (intItems xs).toList = ns := by rw [← e]; exact hi.numsOf
  rw [nums_intItems] at hn
  subst hn
  rw [e] at hl
  have hsz : 0 < xs.size := by simpa using hne
  refine call_max_walkH (PySem.W.iter_tupleW (A := A.in1) hh hl fun s₂ e2 W st hfp hw hk => ?_)
  have keep : ∀ {s' : Shared}, Moved [s.heap.objs.size] (fun a b => b = a) s₂ s' → (∀ b o, s.heap.get? b = some o → s'.heap.get? b = some o) ∧ s' = { s with heap := s'.heap, toks := s'.toks } := by
    intro s' m
    subst e2
    refine ⟨fun b o eb => m.heap b o (fun hb => ?_) (Heap.get?_push_of_some _ eb), ?_⟩
    · have : b = s.heap.objs.size := by simpa using hb
      exact absurd (Heap.lt_size eb) (by rw [this]; exact Nat.lt_irrefl _)
    · have h1 := m.gens
      have h2 := m.drawn
      have h3 := m.os
      cases s'
      cases s
      simp at h1 h2 h3 ⊢
      exact ⟨h1, h2, h3⟩
  refine ⟨_, _, _, _, _, _, _, s.heap, fun i j => decide (numAt xs i > numAt xs j), rfl, W, st, hfp, by simpa [intItems] using hsz, hw, hk, ?_, ?_⟩
  · exact fun i j vi vj s' Q' E' _ h1 h2 h3 => CmpOf.ints_gt (numAt xs) (fun _ _ => intItems_at) i j vi vj s' Q' E' h1 h2 h3
  · intro v s' hP m
    obtain ⟨k1, k2⟩ := keep m
    rw [k2]
    have hP : (intItems xs)[argBest (fun i j => decide (numAt xs i > numAt xs j)) (xs.size - 1)]? = some v := by simpa [intItems] using hP
    obtain ⟨t, rfl⟩ := intItems_at hP
    obtain ⟨h1, h2⟩ := argBest_gt (numAt xs) (xs.size - 1)
    refine h _ _ _ t k1 ?_ fun a ha => ?_
    · rw [numAt_eq]; exact PySem.getD_mem (by rw [List.length_map, Array.length_toList]; omega)
    · obtain ⟨j, hj, rfl⟩ := mem_getD ha
      rw [List.length_map, Array.length_toList] at hj
      rw [← numAt_eq]; exact h2 j (by omega)
def rMaxT (K : PySem.W.Frag) : List V → Hp → VK → Prop := fun vs H Q => ∃ (a : Addr) (ns : List Int), vs = [V.ref a] ∧ SqT K H a (ns.map V.int) ∧ 0 < ns.length ∧ ∀ m, m ∈ ns → (∀ y, y ∈ ns → y ≤ m) → Q (.int m) H
theorem cr_maxT {X : Cx} (hc : X.calm = true) : CallR X (.builtin "max") (rMaxT X.K) := by
  intro pins s σ H vs us Q I r h
  obtain ⟨a, ns, rfl, hs, hne, q⟩ := h
  obtain ⟨its, rv, hl, _⟩ := I.tuple hs
  rw [Vals.ref1 r]
  exact max_rawT (I.ok.hd hc) hl rv.ints hne fun h' tk m t' hk h1 h2 => ⟨.int _, H, I.kept hk, ⟨_, rfl⟩, q m h1 h2⟩
end Br

/-! ### data of any kind in the heap, apart from one list -/
namespace Br
open PySem PySem.Spec PyProof.Rows L2
mutual
inductive DAt (d : Addr) (H : Hp) : V → PyData → Prop
  | non : DAt d H .non .none
  | bl (b : Bool) : DAt d H (.bl b) (.bool b)
  | int (i : Int) : DAt d H (.int i) (.int i)
  | str (x : Str) : DAt d H (.str x) (.str x)
  | lst {a : Addr} {xs : List V} {ds : List PyData} (hd : a ≠ d) (h : H a = some (.lst xs)) (hs : DAts d H xs ds) : DAt d H (.ref a) (.list ds)
  | tup {a : Addr} {xs : List V} {ds : List PyData} (h : H a = some (.tup xs)) (hs : DAts d H xs ds) : DAt d H (.ref a) (.tuple ds)
inductive DAts (d : Addr) (H : Hp) : List V → List PyData → Prop
  | nil : DAts d H [] []
  | cons {v : V} {vs : List V} {e : PyData} {es : List PyData} (h : DAt d H v e) (hs : DAts d H vs es) : DAts d H (v :: vs) (e :: es)
end
section
variable {d : Addr} {H H' : Hp}
theorem DAts.len : ∀ {xs : List V} {ds : List PyData}, DAts d H xs ds → xs.length = ds.length
  | [], _, h => by cases h; rfl
  | _ :: xs, _, h => by
    cases h with
    | cons h hs => exact congrArg (· + 1) hs.len
theorem DAts.get : ∀ {xs : List V} {ds : List PyData}, DAts d H xs ds → ∀ {i : Nat} {x : V}, xs[i]? = some x → ∃ e, ds[i]? = some e ∧ DAt d H x e
  | [], _, _, i, x, e => by simp at e
  | v :: xs, _, h, i, x, e => by
    cases h with
    | cons h hs =>
      cases i with
      | zero => cases e; exact ⟨_, rfl, h⟩
      | succ i => exact hs.get (i := i) (by simpa using e)
theorem DAts.of : ∀ {xs : List V} {ds : List PyData}, xs.length = ds.length → (∀ (i : Nat) x e, xs[i]? = some x → ds[i]? = some e → DAt d H x e) → DAts d H xs ds
  | [], [], _, _ => .nil
  | v :: xs, e :: ds, hl, h => .cons (h 0 v e rfl rfl) (DAts.of (by simpa using hl) fun i x f h1 h2 => h (i + 1) x f (by simpa using h1) (by simpa using h2))
  | [], _ :: _, hl, _ => by simp at hl
  | _ :: _, [], hl, _ => by simp at hl
theorem DAts.snoc : ∀ {xs : List V} {ds : List PyData} {v : V} {e : PyData}, DAts d H xs ds → DAt d H v e → DAts d H (xs ++ [v]) (ds ++ [e])
  | [], _, v, e, h, h1 => by cases h; exact .cons h1 .nil
  | _ :: xs, _, v, e, h, h1 => by
    cases h with
    | cons h hs => exact .cons h (hs.snoc h1)
theorem DAts.app : ∀ {xs ys : List V} {ds es : List PyData}, DAts d H xs ds → DAts d H ys es → DAts d H (xs ++ ys) (ds ++ es)
  | [], _, _, _, h, h1 => by cases h; exact h1
  | _ :: xs, _, _, _, h, h1 => by
    cases h with
    | cons h hs => exact .cons h (hs.app h1)
mutual
theorem DAt.keep (hd : ∃ ys, H d = some (.lst ys)) (k : Keep d H H') : ∀ (e : PyData) {v : V}, DAt d H v e → DAt d H' v e
  | .none, _, h => by cases h; exact .non
  | .bool b, _, h => by cases h; exact .bl b
  | .int i, _, h => by cases h; exact .int i
  | .str x, _, h => by cases h; exact .str x
  | .list ds, _, h => by
    cases h with
    | lst hn h hs => exact .lst hn (k _ _ h hn) (DAts.keep hd k ds hs)
  | .tuple ds, _, h => by
    obtain ⟨ys, hd'⟩ := id hd
    cases h with
    | tup h hs => exact .tup (k _ _ h (ne_of h hd' (by intro z; cases z))) (DAts.keep hd k ds hs)
  | .dict _, _, h => by cases h
theorem DAts.keep (hd : ∃ ys, H d = some (.lst ys)) (k : Keep d H H') : ∀ (es : List PyData) {vs : List V}, DAts d H vs es → DAts d H' vs es
  | [], _, h => by cases h; exact .nil
  | e :: es, _, h => by
    cases h with
    | cons h hs => exact .cons (DAt.keep hd k e h) (DAts.keep hd k es hs)
end
mutual
theorem DAt.same (k : Same H H') : ∀ (e : PyData) {v : V}, DAt d H v e → DAt d H' v e
  | .none, _, h => by cases h; exact .non
  | .bool b, _, h => by cases h; exact .bl b
  | .int i, _, h => by cases h; exact .int i
  | .str x, _, h => by cases h; exact .str x
  | .list ds, _, h => by
    cases h with
    | lst hn h hs => exact .lst hn (k _ _ h) (DAts.same k ds hs)
  | .tuple ds, _, h => by
    cases h with
    | tup h hs => exact .tup (k _ _ h) (DAts.same k ds hs)
  | .dict _, _, h => by cases h
theorem DAts.same (k : Same H H') : ∀ (es : List PyData) {vs : List V}, DAts d H vs es → DAts d H' vs es
  | [], _, h => by cases h; exact .nil
  | e :: es, _, h => by
    cases h with
    | cons h hs => exact .cons (DAt.same k e h) (DAts.same k es hs)
end
theorem DAts.ints : ∀ {ns : List Int}, DAts d H (ns.map V.int) (ns.map PyData.int)
  | [] => .nil
  | i :: ns => .cons (.int i) DAts.ints
theorem DAts.bls : ∀ {bs : List Bool}, DAts d H (bs.map V.bl) (bs.map PyData.bool)
  | [] => .nil
  | b :: bs => .cons (.bl b) DAts.bls
/-- is it an integer from 0 to b - 1 -/
def isBD (b : Int) : PyData → Bool
  | .int i => decide (0 ≤ i) && decide (i < b)
  | _ => false
theorem isBD_iff {b : Int} {e : PyData} : isBD b e = true ↔ ∃ i, e = .int i ∧ 0 ≤ i ∧ i < b := by
  cases e with
  | int i =>
    show (decide (0 ≤ i) && decide (i < b)) = true ↔ _
    rw [Bool.and_eq_true, decide_eq_true_iff, decide_eq_true_iff]
    exact ⟨fun h => ⟨i, rfl, h⟩, fun ⟨j, e, h⟩ => by cases e; exact h⟩
  | _ => exact ⟨fun h => (by cases h), fun h => (by obtain ⟨_, h, _⟩ := h; cases h)⟩
def isBlD : PyData → Bool
  | .bool _ => true
  | _ => false
end
end Br

/-! ### gates as data, and what they do -/
namespace Br
open PySem PySem.Spec PyProof.Rows L2
abbrev Gt := Nat × List Nat
def perfG (bs : List Bool) (g : Gt) : List Bool := if g.2.all (fun c => bs.getD c false) then bs.set g.1 (!bs.getD g.1 false) else bs
def perfF (gs : List Gt) (bs : List Bool) : List Bool := gs.foldl perfG bs
structure GtOk (n : Nat) (g : Gt) : Prop where
  t : g.1 < n
  c : ∀ x, x ∈ g.2 → x < n
  ne : g.1 ∉ g.2
  up : g.2.Pairwise (· < ·)
theorem GtOk.mono {n m : Nat} {g : Gt} (h : GtOk n g) (l : n ≤ m) : GtOk m g := ⟨Nat.lt_of_lt_of_le h.t l, fun x hx => Nat.lt_of_lt_of_le (h.c x hx) l, h.ne, h.up⟩
theorem perfG_len {bs : List Bool} {g : Gt} : (perfG bs g).length = bs.length := by
  unfold perfG
  split
  · rw [List.length_set]
  · rfl
theorem perfF_len : ∀ {gs : List Gt} {bs : List Bool}, (perfF gs bs).length = bs.length
  | [], _ => rfl
  | g :: gs, bs => (perfF_len (gs := gs) (bs := perfG bs g)).trans perfG_len
theorem perfF_snoc {gs : List Gt} {g : Gt} {bs : List Bool} : perfF (gs ++ [g]) bs = perfG (perfF gs bs) g := by
  unfold perfF
  rw [List.foldl_append]
  rfl
theorem getD_setB {bs : List Bool} {i j : Nat} {b : Bool} (h : i ≠ j) : (bs.set i b).getD j false = bs.getD j false := by
  rw [List.getD_eq_getElem?_getD, List.getD_eq_getElem?_getD, List.getElem?_set_ne h]
theorem perfG_twice {n : Nat} {bs : List Bool} {g : Gt} (ok : GtOk n g) (hn : n ≤ bs.length) : perfG (perfG bs g) g = bs := by
  have ht := Nat.lt_of_lt_of_le ok.t hn
  by_cases h : g.2.all (fun c => bs.getD c false) = true
  · have e : perfG bs g = bs.set g.1 (!bs.getD g.1 false) := by unfold perfG; rw [if_pos h]
    rw [e]
    unfold perfG
    rw [if_pos]
    · apply List.ext_getElem?
      intro j
      by_cases hj : g.1 = j
      · subst hj
        have h1 : g.1 < (bs.set g.1 (!bs.getD g.1 false)).length := by rw [List.length_set]; exact ht
        rw [List.getElem?_set_self h1, List.getD_eq_getElem?_getD (l := bs.set _ _), List.getElem?_set_self ht, List.getD_eq_getElem?_getD, List.getElem?_eq_getElem ht]
        simp
      · rw [List.getElem?_set_ne hj, List.getElem?_set_ne hj]
    · rw [List.all_eq_true] at h ⊢
      intro c hc
      rw [getD_setB (fun e => ok.ne (by rw [e]; exact hc))]
      exact h c hc
  · have e : perfG bs g = bs := by unfold perfG; rw [if_neg h]
    rw [e, e]
theorem perfF_rev {n : Nat} : ∀ {gs : List Gt} {bs : List Bool}, (∀ g, g ∈ gs → GtOk n g) → n ≤ bs.length → perfF gs.reverse (perfF gs bs) = bs
  | [], _, _, _ => rfl
  | g :: gs, bs, ok, hn => by
    rw [List.reverse_cons, perfF_snoc]
    show perfG (perfF gs.reverse (perfF gs (perfG bs g))) g = bs
    rw [perfF_rev (fun x hx => ok x (List.mem_cons_of_mem _ hx)) (by rw [perfG_len]; exact hn)]
    exact perfG_twice (ok g List.mem_cons_self) hn
def cInts (cs : List Nat) : List V := cs.map fun (c : Nat) => V.int (c : Int)
def GtAt (H : Hp) (a : Addr) (g : Gt) : Prop := ∃ c : Addr, H a = some (.tup [.int (g.1 : Int), .ref c]) ∧ H c = some (.tup (cInts g.2))
def gtD (g : Gt) : PyData := .tuple [.int (g.1 : Int), .tuple (g.2.map fun (c : Nat) => PyData.int (c : Int))]
theorem GtAt.tups {H H' : Hp} {a : Addr} {g : Gt} (h : GtAt H a g) (k : ∀ b xs, H b = some (.tup xs) → H' b = some (.tup xs)) : GtAt H' a g := by
  obtain ⟨c, h1, h2⟩ := h
  exact ⟨c, k _ _ h1, k _ _ h2⟩
theorem cInts_at {d : Addr} {H : Hp} : ∀ {cs : List Nat}, DAts d H (cInts cs) (cs.map fun (c : Nat) => PyData.int (c : Int))
  | [] => .nil
  | c :: cs => .cons (.int _) cInts_at
theorem GtAt.dat {d a : Addr} {H : Hp} {g : Gt} (h : GtAt H a g) : DAt d H (.ref a) (gtD g) := by
  obtain ⟨c, h1, h2⟩ := h
  exact .tup h1 (.cons (.int _) (.cons (.tup h2 cInts_at) .nil))
/-- rising bits below 120, behind the last one -/
def risF : Int → List PyData → Bool
  | _, [] => true
  | l, .int i :: es => (decide (0 ≤ i) && decide (i < 120)) && (decide (l < i) && risF i es)
  | _, _ :: _ => false
def risD : PyData → Bool
  | .tuple es => risF (-1) es
  | _ => false
def hasD (e : PyData) (es : List PyData) : Bool := es.any fun x => match x, e with | .int i, .int j => decide (i = j) | _, _ => false
def gateD : PyData → Bool
  | .tuple [t, .tuple es] => isBD 120 t && (risF (-1) es && !hasD t es)
  | _ => false
def gatesD : PyData → Bool
  | .list es => decide (es.length ≤ 60000) && es.all gateD
  | _ => false
theorem risF_ok : ∀ {cs : List Nat} {l : Int}, cs.Pairwise (· < ·) → (∀ c, c ∈ cs → c < 120 ∧ l < (c : Int)) → risF l (cs.map fun (c : Nat) => PyData.int (c : Int)) = true
  | [], _, _, _ => rfl
  | c :: cs, l, hp, h => by
    obtain ⟨h1, h2⟩ := h c List.mem_cons_self
    show ((decide (0 ≤ (c : Int)) && decide ((c : Int) < 120)) && (decide (l < (c : Int)) && _)) = true
    rw [decide_eq_true (by omega), decide_eq_true (by omega), decide_eq_true h2]
    rw [List.pairwise_cons] at hp
    exact risF_ok hp.2 fun x hx => ⟨(h x (List.mem_cons_of_mem _ hx)).1, by have := hp.1 x hx; omega⟩
theorem gateD_ok {g : Gt} (ok : GtOk 120 g) : gateD (gtD g) = true := by
  show (isBD 120 (.int (g.1 : Int)) && (risF (-1) (g.2.map fun (c : Nat) => PyData.int (c : Int)) && !hasD (.int (g.1 : Int)) (g.2.map fun (c : Nat) => PyData.int (c : Int)))) = true
  have h1 : isBD 120 (.int (g.1 : Int)) = true := isBD_iff.mpr ⟨_, rfl, by omega, by have := ok.t; omega⟩
  have h2 := risF_ok (l := -1) ok.up fun c hc => ⟨ok.c c hc, by omega⟩
  have h3 : hasD (.int (g.1 : Int)) (g.2.map fun (c : Nat) => PyData.int (c : Int)) = false := by
    unfold hasD
    rw [List.any_eq_false]
    intro x hx
    obtain ⟨c, hc, rfl⟩ := List.mem_map.mp hx
    have hne : (c : Int) ≠ (g.1 : Int) := fun e => ok.ne (by have : c = g.1 := by omega
                                                             rw [← this]; exact hc)
    show ¬ decide ((c : Int) = (g.1 : Int)) = true
    rw [decide_eq_false hne]
    decide
  rw [h1, h2, h3]
  rfl
/-- the bits that a gate touches -/
def topG (g : Gt) : Nat := g.2.foldr max g.1 + 1
theorem foldr_max {cs : List Nat} {t : Nat} : t ≤ cs.foldr max t ∧ (∀ c, c ∈ cs → c ≤ cs.foldr max t) ∧ (cs.foldr max t = t ∨ cs.foldr max t ∈ cs) := by
  induction cs with
  | nil => exact ⟨Nat.le_refl _, fun c h => by simp at h, .inl rfl⟩
  | cons c cs ih =>
    obtain ⟨h1, h2, h3⟩ := ih
    show t ≤ max c _ ∧ _ ∧ _
    refine ⟨by omega, fun x hx => ?_, ?_⟩
    · rcases List.mem_cons.mp hx with rfl | hx
      · exact Nat.le_max_left _ _
      · exact Nat.le_trans (h2 x hx) (Nat.le_max_right _ _)
    · show max c _ = t ∨ max c _ ∈ _
      rcases Nat.le_total c (cs.foldr max t) with h | h
      · rw [Nat.max_eq_right h]
        rcases h3 with h3 | h3
        · exact .inl h3
        · exact .inr (List.mem_cons_of_mem _ h3)
      · rw [Nat.max_eq_left h]
        exact .inr List.mem_cons_self
theorem topG_le {n : Nat} {g : Gt} (ok : GtOk n g) : topG g ≤ n := by
  unfold topG
  rcases (foldr_max (cs := g.2) (t := g.1)).2.2 with h | h
  · rw [h]; exact ok.t
  · exact ok.c _ h
theorem up_len {n : Nat} : ∀ {cs : List Nat} {l : Nat}, cs.Pairwise (· < ·) → (∀ c, c ∈ cs → l ≤ c ∧ c < n) → cs.length ≤ n - l
  | [], _, _, _ => Nat.zero_le _
  | c :: cs, l, hp, h => by
    rw [List.pairwise_cons] at hp
    obtain ⟨h1, h2⟩ := h c List.mem_cons_self
    have := up_len (l := c + 1) hp.2 fun x hx => ⟨hp.1 x hx, (h x (List.mem_cons_of_mem _ hx)).2⟩
    rw [List.length_cons]
    omega
theorem GtOk.len {n : Nat} {g : Gt} (h : GtOk n g) : g.2.length ≤ n := by
  have := up_len (l := 0) h.up fun c hc => ⟨Nat.zero_le _, h.c c hc⟩
  omega
theorem cInts_get {cs : List Nat} {i : Nat} {x : V} (hx : (cInts cs)[i]? = some x) : ∃ m : Nat, cs[i]? = some m ∧ x = .int (m : Int) := by
  unfold cInts at hx
  rw [List.getElem?_map] at hx
  cases e : cs[i]? with
  | none => rw [e] at hx; cases hx
  | some n => rw [e] at hx; exact ⟨n, rfl, (Option.some.inj hx).symm⟩
end Br

/-! ### bits, many gates; comprehensions with a test -/
namespace Br
open PySem PySem.Spec PyProof.Rows L2
theorem x_max {σ : L2.St} {H : Hp} {Q : VK} {K : PySem.W.Frag} {p : Addr} {ns : List Int} (hp : SqL K H p (ns.map V.int)) (h0 : 0 < ns.length) (q : ∀ m, m ∈ ns → (∀ y, y ∈ ns → y ≤ m) → Q (.int m) H) : rMax K [.ref p] H Q := ⟨p, ns, rfl, hp, h0, q⟩
theorem cInts_eq {cs : List Nat} : cInts cs = (cs.map fun (c : Nat) => (c : Int)).map V.int := by
  unfold cInts
  rw [List.map_map]
  rfl
theorem x_listT {K : PySem.W.Frag} {H : Hp} {Q : VK} {p : Addr} {xs : List V} (hp : SqT K H p xs) (q : ∀ l, H l = none → Q (.ref l) (L2.upd H l (.lst xs))) : rListOf K [.ref p] H Q := ⟨p, xs, rfl, .inr hp, q⟩
def bls (bs : List Bool) : List V := bs.map V.bl
theorem bls_get {bs : List Bool} {i : Nat} (h : i < bs.length) : (bls bs)[i]? = some (.bl (bs.getD i false)) := by
  unfold bls
  rw [List.getElem?_map, List.getElem?_eq_getElem h, List.getD_eq_getElem?_getD, List.getElem?_eq_getElem h]
  rfl
theorem bls_set {bs : List Bool} {i : Nat} {b : Bool} : (bls bs).set i (.bl b) = bls (bs.set i b) := by
  unfold bls
  rw [List.map_set]
theorem bls_len {bs : List Bool} : (bls bs).length = bs.length := by unfold bls; rw [List.length_map]
/-- many gates -/
def GtsAt (H : Hp) (as : List Addr) (gs : List Gt) : Prop := as.length = gs.length ∧ ∀ (i : Nat) x b, gs[i]? = some x → as[i]? = some b → GtAt H b x
theorem GtsAt.tups {H H' : Hp} {as : List Addr} {gs : List Gt} (h : GtsAt H as gs) (k : ∀ b xs, H b = some (.tup xs) → H' b = some (.tup xs)) : GtsAt H' as gs := ⟨h.1, fun i x b e1 e2 => (h.2 i x b e1 e2).tups k⟩
theorem GtsAt.get {H : Hp} {as : List Addr} {gs : List Gt} (h : GtsAt H as gs) {i : Nat} {b : Addr} (e : as[i]? = some b) : ∃ x, gs[i]? = some x ∧ GtAt H b x := by
  have hl := (List.getElem?_eq_some_iff.mp e).1
  have hl2 : i < gs.length := by rw [← h.1]; exact hl
  exact ⟨_, List.getElem?_eq_getElem hl2, h.2 i _ b (List.getElem?_eq_getElem hl2) e⟩
theorem take_snocG {α : Type} {ss : List α} {i : Nat} {s : α} (h : ss[i]? = some s) : ss.take (i + 1) = ss.take i ++ [s] := by rw [List.take_add_one, h]; rfl
/-- a comprehension over a tuple, with a test, that keeps the items that meet it -/
theorem x_lcTT {K : PySem.W.Frag} {σ : L2.St} {H : Hp} {Q : VK} {ta : TE} {tt : TT} {te : TE} {j : Nat} {vs : List Nat} {a : Addr} (xs : List V) (P : Addr → Nat → Hp → Prop) (hn : ∀ R : V → Hp → Prop, R (.ref a) H → ta σ H R) (ha : SqT K H a xs) (h0 : ∀ p, H p = none → P p 0 (L2.upd H p (.lst [])))
    (hl : ∀ p i H', H p = none → i ≤ xs.length → P p i H' → SqT K H' a xs) (hw : ∀ x, wipe ((wipe σ vs).set j (some x)) vs = wipe σ vs)
    (hs : ∀ p (i : Nat) x H', H p = none → xs[i]? = some x → P p i H' → tt ((wipe σ vs).set j (some x)) H' fun b H3 => if b = true then te ((wipe σ vs).set j (some x)) H3 fun y H4 => ∃ acc, H4 p = some (.lst acc) ∧ acc.length < sizeLine ∧ P p (i + 1) (L2.upd H4 p (.lst (acc ++ [y]))) else P p (i + 1) H3)
    (hd : ∀ p H', H p = none → P p xs.length H' → Q (.ref p) H') : tLc (iTup K ta) (gName j) tt te vs σ H Q := by
  refine hn _ ⟨a, rfl, ⟨xs, ha⟩, fun p hp => ?_⟩
  refine lc_tup (xs := xs) (Qd := fun H' => Q (.ref p) H') (P p) (h0 p hp) (fun i H' hi q => hl p i H' hp hi q) (fun i x H' hi q => ?_) fun H' q => hd p H' hp q
  exact ⟨hw _, hs p i x H' hp hi q⟩
theorem x_lcPreT {σ : L2.St} {H : Hp} {Q : VK} {ta : TE} {j : Nat} {tt : TT} {te : TE} {vs : List Nat} (h : ta σ H fun v H1 => tLc (iRng1 (tCons (tC v) tNil)) (gName j) tt te vs σ H1 Q) : tLc (iRng1 (tCons ta tNil)) (gName j) tt te vs σ H Q := h
/-- a comprehension over a range, with a test -/
theorem x_lcRT {σ : L2.St} {H : Hp} {Q : VK} {ta : TE} {tt : TT} {j : Nat} {te : TE} {vs : List Nat} (n : Int) (P : Addr → Nat → Hp → Prop) (hn : ∀ R : V → Hp → Prop, R (.int n) H → ta σ H R) (h1 : -(2 ^ 62) ≤ n) (h2 : n < 2 ^ 62) (h0 : ∀ p, H p = none → P p 0 (L2.upd H p (.lst [])))
    (hw : ∀ x, wipe ((wipe σ vs).set j (some x)) vs = wipe σ vs)
    (hs : ∀ p (i : Nat) H', H p = none → (i : Int) < n → P p i H' → tt ((wipe σ vs).set j (some (.int (i : Int)))) H' fun b H3 => if b = true then te ((wipe σ vs).set j (some (.int (i : Int)))) H3 fun y H4 => ∃ acc, H4 p = some (.lst acc) ∧ acc.length < sizeLine ∧ P p (i + 1) (L2.upd H4 p (.lst (acc ++ [y]))) else P p (i + 1) H3)
    (hd : ∀ p H', H p = none → P p n.toNat H' → Q (.ref p) H') : tLc (iRng1 (tCons ta tNil)) (gName j) tt te vs σ H Q := by
  refine hn _ ⟨n, rfl, h1, h2, fun p hp => ?_⟩
  refine lc_range (lo := 0) (Qd := fun H' => Q (.ref p) H') (P p) (h0 p hp) (fun i H' hi q => ?_) fun H' q => hd p H' hp q
  have e : (0 : Int) + (i : Int) = (i : Int) := Int.zero_add _
  rw [e]
  exact ⟨hw _, hs p i H' hp (by omega) q⟩
theorem up_snoc {cs : List Nat} {i : Nat} (h : cs.Pairwise (· < ·)) (hc : ∀ c, c ∈ cs → c < i) : (cs ++ [i]).Pairwise (· < ·) := by
  rw [List.pairwise_append]
  exact ⟨h, List.pairwise_singleton _ _, fun a ha b hb => by rw [List.mem_singleton.mp hb]; exact hc a ha⟩
theorem cInts_snoc {cs : List Nat} {i : Nat} : cInts cs ++ [.int (i : Int)] = cInts (cs ++ [i]) := by unfold cInts; rw [List.map_append]; rfl
theorem cInts_len {cs : List Nat} : (cInts cs).length = cs.length := by unfold cInts; rw [List.length_map]
theorem bls_snoc {bs : List Bool} {b : Bool} : bls bs ++ [.bl b] = bls (bs ++ [b]) := by unfold bls; rw [List.map_append]; rfl
/-- a comprehension of values, item by item -/
theorem x_lcV {wi : TI} {te : TE} {vs : List Nat} {j : Nat} {Q : VK} {σ : L2.St} {H : Hp} {J : It} {G : Hp → Prop} {xs : List V} (f : Nat → V) (hw : ∀ R : It → Hp → Prop, R J H → wi σ H R) (w : Walk J xs.length G (YAt xs)) (hn : xs.length ≤ 100000)
    (hG : ∀ H', Same H H' → G H') (hv : ∀ x, wipe ((wipe σ vs).set j (some x)) vs = wipe σ vs)
    (he : ∀ (i : Nat) x H', Same H H' → xs[i]? = some x → ∀ R : VK, (∀ H2, Same H' H2 → R (f i) H2) → te ((wipe σ vs).set j (some x)) H' R)
    (hd : ∀ p H', H p = none → Same H H' → H' p = some (.lst ((List.range xs.length).map f)) → Q (.ref p) H') : tLc wi (gName j) tYes te vs σ H Q := by
  refine x_lcI hw w (fun p i H' => Same H H' ∧ H' p = some (.lst ((List.range i).map f))) (fun p hp => ⟨same_upd hp, upd_same⟩) (fun p i H' _ _ z => hG H' z.1) ?_ (fun x σ' H' R R' hr h => hr _ _ h) fun p H' hp z => hd p H' hp z.1 z.2
  rintro p i x H' H2 hi hp ⟨hs, hl⟩ ⟨rfl, hx⟩
  refine x_gName ⟨hv x, he i x _ hs hx _ fun H3 hs3 => ?_⟩
  refine ⟨_, hs3 _ _ hl, lt_line (by simp; omega), sput (hs.trans hs3) hp, ?_⟩
  rw [upd_same, List.range_succ, List.map_append]
  rfl
theorem range_map {α β : Type} {ds : List α} {f : α → β} {d : α} : ((List.range ds.length).map fun i => f (ds.getD i d)) = ds.map f := by
  apply List.ext_getElem?
  intro i
  rw [List.getElem?_map, List.getElem?_map]
  by_cases h : i < ds.length
  · rw [List.getElem?_range h, List.getElem?_eq_getElem h]
    show some (f (ds.getD i d)) = some (f ds[i])
    rw [List.getD_eq_getElem?_getD, List.getElem?_eq_getElem h]; rfl
  · rw [List.getElem?_eq_none (by simpa using h), List.getElem?_eq_none (by simpa using h)]
    rfl
theorem getDT {α : Type} {ds : List α} {i : Nat} {e d : α} (h : ds[i]? = some e) : ds.getD i d = e := by rw [List.getD_eq_getElem?_getD, h]; rfl
theorem GtsAt.snoc {H : Hp} {as : List Addr} {gs : List Gt} {b : Addr} {x : Gt} (h : GtsAt H as gs) (hx : GtAt H b x) : GtsAt H (as ++ [b]) (gs ++ [x]) := by
  refine ⟨by rw [List.length_append, List.length_append, h.1]; rfl, fun i y c e1 e2 => ?_⟩
  rcases snoc_at rfl e1 with ⟨h1, e1⟩ | ⟨h1, rfl⟩
  · rcases snoc_at rfl e2 with ⟨h2, e2⟩ | ⟨h2, rfl⟩
    · exact h.2 i y c e1 e2
    · have := h.1; omega
  · rcases snoc_at rfl e2 with ⟨h2, e2⟩ | ⟨h2, rfl⟩
    · have := h.1; omega
    · exact hx
theorem x_lcPreLT {K : PySem.W.Frag} {σ : L2.St} {H : Hp} {Q : VK} {te : TE} {ta : TE} {tt : TT} {j : Nat} {vs : List Nat} (h : ta σ H fun v H1 => tLc (iList K (tC v)) (gName j) tt te vs σ H1 Q) : tLc (iList K ta) (gName j) tt te vs σ H Q := h
/-- a comprehension over a list, with a test -/
theorem x_lcLT {K : PySem.W.Frag} {σ : L2.St} {H : Hp} {Q : VK} {ta : TE} {tt : TT} {te : TE} {j : Nat} {vs : List Nat} {a : Addr} (xs : List V) (P : Addr → Nat → Hp → Prop) (hn : ∀ R : V → Hp → Prop, R (.ref a) H → ta σ H R) (ha : SqL K H a xs) (h0 : ∀ p, H p = none → P p 0 (L2.upd H p (.lst [])))
    (hl : ∀ p i H', H p = none → i ≤ xs.length → P p i H' → SqL K H' a xs) (hw : ∀ x, wipe ((wipe σ vs).set j (some x)) vs = wipe σ vs)
    (hs : ∀ p (i : Nat) x H', H p = none → xs[i]? = some x → P p i H' → tt ((wipe σ vs).set j (some x)) H' fun b H3 => if b = true then te ((wipe σ vs).set j (some x)) H3 fun y H4 => ∃ acc, H4 p = some (.lst acc) ∧ acc.length < sizeLine ∧ P p (i + 1) (L2.upd H4 p (.lst (acc ++ [y]))) else P p (i + 1) H3)
    (hd : ∀ p H', H p = none → P p xs.length H' → Q (.ref p) H') : tLc (iList K ta) (gName j) tt te vs σ H Q := by
  refine hn _ ⟨a, rfl, ⟨xs, ha⟩, fun p hp => ?_⟩
  refine lc_list (xs := xs) (Qd := fun H' => Q (.ref p) H') (P p) (h0 p hp) (fun i H' hi q => hl p i H' hp hi q) (fun i x H' hi q => ?_) fun H' q => hd p H' hp q
  exact ⟨hw _, hs p i x H' hp hi q⟩
def bitsD (n : Int) : PyData → Bool
  | .list es => decide (n ≤ (es.length : Int)) && es.all isBlD
  | _ => false
def blsD (bs : List Bool) : PyData := .list (bs.map PyData.bool)
theorem bitsD_iff {n : Int} {e : PyData} : bitsD n e = true ↔ ∃ bs : List Bool, e = blsD bs ∧ n ≤ (bs.length : Int) := by
  constructor
  · intro h
    cases e with
    | list es =>
      have h : (decide (n ≤ (es.length : Int)) && es.all isBlD) = true := h
      rw [Bool.and_eq_true, decide_eq_true_iff] at h
      have : ∀ es : List PyData, es.all isBlD = true → ∃ bs : List Bool, es = bs.map PyData.bool := by
        intro es
        induction es with
        | nil => intro _; exact ⟨[], rfl⟩
        | cons e es ih =>
          intro h
          rw [List.all_cons, Bool.and_eq_true] at h
          obtain ⟨bs, rfl⟩ := ih h.2
          cases e with
          | bool b => exact ⟨b :: bs, rfl⟩
          | _ => cases h.1
      obtain ⟨bs, rfl⟩ := this es h.2
      exact ⟨bs, rfl, by have := h.1; rw [List.length_map] at this; exact this⟩
    | _ => cases h
  · rintro ⟨bs, rfl, h⟩
    show (decide (n ≤ ((bs.map PyData.bool).length : Int)) && (bs.map PyData.bool).all isBlD) = true
    rw [List.length_map, decide_eq_true h, Bool.true_and, List.all_eq_true]
    intro e he
    obtain ⟨b, _, rfl⟩ := List.mem_map.mp he
    rfl
theorem blsD_at {d : Addr} {H : Hp} {v : V} {bs : List Bool} (h : DAt d H v (blsD bs)) : ∃ a, v = .ref a ∧ H a = some (.lst (bls bs)) := by
  unfold blsD at h
  cases h with
  | lst hd h hs =>
    rename_i a xs
    refine ⟨a, rfl, ?_⟩
    have : ∀ {bs : List Bool} {xs : List V}, DAts d H xs (bs.map PyData.bool) → xs = bls bs := by
      intro bs
      induction bs with
      | nil => intro xs h; cases h; rfl
      | cons b bs ih =>
        intro xs h
        cases h with
        | cons h hs =>
          cases h
          rw [ih hs]
          rfl
    rw [h, this hs]
end Br

/-! ### words as data, and what they do -/
namespace Br
open PySem PySem.Spec PyProof.Rows L2
theorem cutV_to {xs : List V} {k : Nat} (h : k ≤ xs.length) : cutV xs none (some (k : Int)) = xs.take k := by
  unfold cutV
  rw [HT.sIx_none, HT.sIx_nat, Nat.min_eq_left h, List.drop_zero, Nat.sub_zero]
theorem cutV_from {xs : List V} {k : Nat} (h : k ≤ xs.length) : cutV xs (some (k : Int)) none = xs.drop k := by
  unfold cutV
  rw [HT.sIx_none, HT.sIx_nat, Nat.min_eq_left h]
  exact List.take_of_length_le (by rw [List.length_drop]; exact Nat.le_refl _)
/-! slices -/
section
variable {σ : L2.St} {H : Hp} {Q : VK} {R : Option Int → Hp → Prop}
theorem x_gTup3 {K : PySem.W.Frag} {σ : L2.St} {H : Hp} {p : Addr} {x y z : V} {i j k : Nat} {R : L2.St → Hp → Prop} (hp : SqT K H p [x, y, z]) (h : R (((σ.set i (some x)).set j (some y)).set k (some z)) H) : gTup K 3 (gCons (gName i) (gCons (gName j) (gCons (gName k) gNil))) (.ref p) σ H R :=
  ⟨p, [x, y, z], rfl, hp, rfl, x, [y, z], rfl, y, [z], rfl, z, [], rfl, rfl, h⟩
end
structure PmOk (p : List Nat) : Prop where
  len : p.length = 5
  lt : ∀ x, x ∈ p → x < 5
  nd : p.Nodup
abbrev Tr := Nat × List Nat × List Nat
def TrOk (t : Tr) : Prop := t.1 < 60 ∧ PmOk t.2.1 ∧ PmOk t.2.2
def pmD (p : List Nat) : PyData := .tuple (p.map fun (c : Nat) => PyData.int (c : Int))
def trD (t : Tr) : PyData := .tuple [.int (t.1 : Int), pmD t.2.1, pmD t.2.2]
def TrAt (H : Hp) (a : Addr) (t : Tr) : Prop := ∃ z o : Addr, H a = some (.tup [.int (t.1 : Int), .ref z, .ref o]) ∧ H z = some (.tup (cInts t.2.1)) ∧ H o = some (.tup (cInts t.2.2))
theorem TrAt.tups {H H' : Hp} {a : Addr} {t : Tr} (h : TrAt H a t) (k : ∀ b xs, H b = some (.tup xs) → H' b = some (.tup xs)) : TrAt H' a t := by
  obtain ⟨z, o, h1, h2, h3⟩ := h
  exact ⟨z, o, k _ _ h1, k _ _ h2, k _ _ h3⟩
theorem TrAt.dat {d a : Addr} {H : Hp} {t : Tr} (h : TrAt H a t) : DAt d H (.ref a) (trD t) := by
  obtain ⟨z, o, h1, h2, h3⟩ := h
  exact .tup h1 (.cons (.int _) (.cons (.tup h2 cInts_at) (.cons (.tup h3 cInts_at) .nil)))
/-- back from data -/
theorem cInts_of {d : Addr} {H : Hp} : ∀ {xs : List V} {cs : List Nat}, DAts d H xs (cs.map fun (c : Nat) => PyData.int (c : Int)) → xs = cInts cs
  | [], [], _ => rfl
  | v :: xs, c :: cs, h => by
    cases h with
    | cons h hs =>
      cases h
      rw [cInts_of hs]
      rfl
  | [], _ :: _, h => by cases h
  | _ :: _, [], h => by cases h
theorem pmD_at {d : Addr} {H : Hp} {v : V} {p : List Nat} (h : DAt d H v (pmD p)) : ∃ z, v = .ref z ∧ H z = some (.tup (cInts p)) := by
  unfold pmD at h
  cases h with
  | tup h hs =>
    rename_i a xs
    refine ⟨a, rfl, ?_⟩
    rw [h, cInts_of hs]
theorem trD_at {d : Addr} {H : Hp} {v : V} {t : Tr} (h : DAt d H v (trD t)) : ∃ a, v = .ref a ∧ TrAt H a t := by
  unfold trD at h
  cases h with
  | tup h hs =>
    rename_i a xs
    cases hs with
    | cons h1 hs =>
      cases h1
      cases hs with
      | cons h2 hs =>
        cases hs with
        | cons h3 hs =>
          cases hs
          obtain ⟨z, rfl, e2⟩ := pmD_at h2
          obtain ⟨o, rfl, e3⟩ := pmD_at h3
          exact ⟨a, rfl, z, o, h, e2, e3⟩
/-- the checks -/
def intD : PyData → Int
  | .int i => i
  | _ => 0
def permD : PyData → Bool
  | .tuple es => decide (es.length = 5) && (es.all (isBD 5) && decide (es.map intD).Nodup)
  | _ => false
def tripD : PyData → Bool
  | .tuple [k, z, o] => isBD 60 k && (permD z && permD o)
  | _ => false
def wordD : PyData → Bool
  | .list es => decide (es.length ≤ 20000) && es.all tripD
  | _ => false
theorem ints_nat : ∀ {es : List PyData} {b : Nat}, es.all (isBD (b : Int)) = true → ∃ cs : List Nat, es = cs.map (fun (c : Nat) => PyData.int (c : Int)) ∧ ∀ c, c ∈ cs → c < b
  | [], _, _ => ⟨[], rfl, fun c h => by simp at h⟩
  | e :: es, b, h => by
    rw [List.all_cons, Bool.and_eq_true] at h
    obtain ⟨i, rfl, i0, i1⟩ := isBD_iff.mp h.1
    obtain ⟨cs, rfl, hc⟩ := ints_nat h.2
    refine ⟨i.toNat :: cs, ?_, fun c hc' => ?_⟩
    · rw [List.map_cons]
      congr 2
      omega
    · rcases List.mem_cons.mp hc' with rfl | hc'
      · omega
      · exact hc c hc'
theorem map_intD {cs : List Nat} : (cs.map fun (c : Nat) => PyData.int (c : Int)).map intD = cs.map fun (c : Nat) => (c : Int) := by rw [List.map_map]; rfl
theorem nodup_cast {cs : List Nat} : (cs.map fun (c : Nat) => (c : Int)).Nodup ↔ cs.Nodup := by
  unfold List.Nodup
  rw [List.pairwise_map]
  exact ⟨fun h => h.imp fun hh e => hh (by rw [e]), fun h => h.imp fun hh e => hh (Int.ofNat.inj e)⟩
theorem permD_iff {e : PyData} : permD e = true ↔ ∃ p, e = pmD p ∧ PmOk p := by
  constructor
  · intro h
    cases e with
    | tuple es =>
      have h : (decide (es.length = 5) && (es.all (isBD 5) && decide (es.map intD).Nodup)) = true := h
      rw [Bool.and_eq_true, Bool.and_eq_true (es.all _), decide_eq_true_iff, decide_eq_true_iff] at h
      obtain ⟨h1, h2, h3⟩ := h
      obtain ⟨cs, rfl, hc⟩ := ints_nat (b := 5) h2
      rw [map_intD, nodup_cast] at h3
      exact ⟨cs, rfl, by rw [List.length_map] at h1; exact h1, hc, h3⟩
    | _ => cases h
  · rintro ⟨p, rfl, h⟩
    show (decide ((p.map _).length = 5) && ((p.map _).all (isBD 5) && decide ((p.map _).map intD).Nodup)) = true
    rw [map_intD, List.length_map, decide_eq_true h.len, decide_eq_true (nodup_cast.mpr h.nd), Bool.and_true, Bool.true_and, List.all_eq_true]
    intro x hx
    obtain ⟨c, hc, rfl⟩ := List.mem_map.mp hx
    exact isBD_iff.mpr ⟨_, rfl, by omega, by have := h.lt c hc; omega⟩
theorem tripD_iff {e : PyData} : tripD e = true ↔ ∃ t, e = trD t ∧ TrOk t := by
  constructor
  · intro h
    match e, h with
    | .tuple [k, z, o], h =>
      have h : (isBD 60 k && (permD z && permD o)) = true := h
      rw [Bool.and_eq_true, Bool.and_eq_true (permD z)] at h
      obtain ⟨i, rfl, i0, i1⟩ := isBD_iff.mp h.1
      obtain ⟨p, rfl, hp⟩ := permD_iff.mp h.2.1
      obtain ⟨p2, rfl, hp2⟩ := permD_iff.mp h.2.2
      refine ⟨(i.toNat, p, p2), ?_, by show i.toNat < 60; omega, hp, hp2⟩
      show PyData.tuple _ = .tuple [.int ((i.toNat : Nat) : Int), _, _]
      rw [show ((i.toNat : Nat) : Int) = i by omega]
  · rintro ⟨t, rfl, h1, h2, h3⟩
    show (isBD 60 (.int (t.1 : Int)) && (permD (pmD t.2.1) && permD (pmD t.2.2))) = true
    rw [isBD_iff.mpr ⟨_, rfl, by omega, by omega⟩, permD_iff.mpr ⟨_, rfl, h2⟩, permD_iff.mpr ⟨_, rfl, h3⟩]
    rfl
theorem trips_of : ∀ {es : List PyData}, es.all tripD = true → ∃ ws : List Tr, es = ws.map trD ∧ ∀ t, t ∈ ws → TrOk t
  | [], _ => ⟨[], rfl, fun t h => by simp at h⟩
  | e :: es, h => by
    rw [List.all_cons, Bool.and_eq_true] at h
    obtain ⟨t, rfl, ht⟩ := tripD_iff.mp h.1
    obtain ⟨ws, rfl, hw⟩ := trips_of h.2
    refine ⟨t :: ws, rfl, fun x hx => ?_⟩
    rcases List.mem_cons.mp hx with rfl | hx
    · exact ht
    · exact hw x hx
theorem wordD_iff {e : PyData} : wordD e = true ↔ ∃ ws : List Tr, e = .list (ws.map trD) ∧ ws.length ≤ 20000 ∧ ∀ t, t ∈ ws → TrOk t := by
  constructor
  · intro h
    cases e with
    | list es =>
      have h : (decide (es.length ≤ 20000) && es.all tripD) = true := h
      rw [Bool.and_eq_true, decide_eq_true_iff] at h
      obtain ⟨ws, rfl, hw⟩ := trips_of h.2
      exact ⟨ws, rfl, by have := h.1; rw [List.length_map] at this; exact this, hw⟩
    | _ => cases h
  · rintro ⟨ws, rfl, hl, hw⟩
    show (decide ((ws.map trD).length ≤ 20000) && (ws.map trD).all tripD) = true
    rw [List.length_map, decide_eq_true hl, Bool.true_and, List.all_eq_true]
    intro x hx
    obtain ⟨t, ht, rfl⟩ := List.mem_map.mp hx
    exact tripD_iff.mpr ⟨t, rfl, hw t ht⟩
/-- what a word does -/
def stepW (bs : List Bool) (p : Nat) (t : Tr) : Nat := (if bs.getD t.1 false then t.2.2 else t.2.1).getD p 0
def effF (ws : List Tr) (bs : List Bool) (p : Nat) : Nat := ws.foldl (stepW bs) p
theorem effF_snoc {ws : List Tr} {t : Tr} {bs : List Bool} {p : Nat} : effF (ws ++ [t]) bs p = stepW bs (effF ws bs p) t := by
  unfold effF
  rw [List.foldl_append]
  rfl
theorem pm_get {p : List Nat} (h : PmOk p) {i : Nat} (hi : i < 5) : p[i]? = some (p.getD i 0) ∧ p.getD i 0 < 5 := by
  have hl : i < p.length := by rw [h.len]; exact hi
  have e : p.getD i 0 = p[i] := by rw [List.getD_eq_getElem?_getD, List.getElem?_eq_getElem hl]; rfl
  rw [e]
  exact ⟨List.getElem?_eq_getElem hl, h.lt _ (List.getElem_mem hl)⟩
theorem effF_lt {bs : List Bool} : ∀ {ws : List Tr} {p : Nat}, (∀ t, t ∈ ws → TrOk t) → p < 5 → effF ws bs p < 5
  | [], _, _, hp => hp
  | t :: ws, p, h, hp => by
    have ht := h t List.mem_cons_self
    refine effF_lt (p := stepW bs p t) (fun x hx => h x (List.mem_cons_of_mem _ hx)) ?_
    unfold stepW
    split
    · exact (pm_get ht.2.2 hp).2
    · exact (pm_get ht.2.1 hp).2
/-- the bits that a word needs -/
def needW (ws : List Tr) : Nat := (ws.map fun t => t.1 + 1).foldr max 0
theorem needW_le {ws : List Tr} {t : Tr} (h : t ∈ ws) : t.1 + 1 ≤ needW ws := (foldr_max (cs := ws.map fun t => t.1 + 1) (t := 0)).2.1 _ (List.mem_map.mpr ⟨t, h, rfl⟩)
theorem needW_max {ws : List Tr} {m : Int} (h : (ws = [] ∧ m = 0) ∨ (m ∈ ws.map (fun t => ((t.1 : Int) + 1)) ∧ ∀ y, y ∈ ws.map (fun t => ((t.1 : Int) + 1)) → y ≤ m)) : m = (needW ws : Nat) := by
  rcases h with ⟨rfl, rfl⟩ | ⟨h1, h2⟩
  · rfl
  · obtain ⟨t, ht, rfl⟩ := List.mem_map.mp h1
    have k1 := needW_le ht
    have k2 : (needW ws : Int) ≤ (t.1 : Int) + 1 := by
      rcases (foldr_max (cs := ws.map fun t => t.1 + 1) (t := 0)).2.2 with e | e
      · have : needW ws = 0 := e
        omega
      · obtain ⟨u, hu, e⟩ := List.mem_map.mp e
        have := h2 _ (List.mem_map.mpr ⟨u, hu, rfl⟩)
        have e : u.1 + 1 = needW ws := e
        omega
    omega
theorem needW_60 {ws : List Tr} (h : ∀ t, t ∈ ws → TrOk t) : needW ws ≤ 60 := by
  rcases (foldr_max (cs := ws.map fun t => t.1 + 1) (t := 0)).2.2 with e | e
  · have : needW ws = 0 := e
    omega
  · obtain ⟨u, hu, e⟩ := List.mem_map.mp e
    have := (h u hu).1
    have e : u.1 + 1 = needW ws := e
    omega
end Br

/-! ### exceptions of the program: what a suite asks of the one it holds -/
namespace Br
open PySem PySem.Spec PyProof.Rows L2
theorem kit_ref {K : PySem.W.Frag} {D Y : Addr} {b : Bool} (hd : PySem.W.hasDictIn K Y = true) (ht : PySem.W.typeIn K (.ref Y) = some (.type "type")) (h : PySem.W.subIn K (.ref D) (.ref Y) = some b) (hs : PySem.W.subIn K (.ref Y) (.ref Y) = some true) : PySem.W.kitOne K (.ref D) (.ref Y) = some b := by
  unfold PySem.W.kitOne
  by_cases e : D = Y
  · subst e
    rw [h] at hs
    cases hs
    rw [if_pos (by simp)]
  · have hne : ((Value.ref D : Value) == Value.ref Y) = false := by
      rw [beq_eq_false_iff_ne]
      intro z
      cases z
      exact e rfl
    rw [hne, if_neg Bool.false_ne_true]
    obtain ⟨cd, hc, _⟩ := PySem.W.any_some hd
    have e2 : ((PySem.W.clsIn K Y).isSome && PySem.W.typeIn K (.ref Y) == some (.type "type")) = true := by rw [hc, ht]; rfl
    show (if ((PySem.W.clsIn K Y).isSome && PySem.W.typeIn K (.ref Y) == some (.type "type")) = true then PySem.W.subIn K (.ref D) (.ref Y) else none) = some b
    rw [if_pos e2]
    exact h
/-- isinstance(e, c), e what the suite holds, of whatever class -/
def rIsEQ (K : PySem.W.Frag) (a : Addr) (cls : Value) (d : Option Addr) : List V → Hp → VK → Prop := fun xs H Q => ∃ (D : Addr) (C : Addr) (b : Bool), cls = .ref D ∧ d = none ∧ ExcC K D ∧ xs = [.ref a, .ref C] ∧ PySem.W.kitOne K (.ref D) (.ref C) = some b ∧ Q (.bl b) H
theorem call_isEQ {X : Cx} {a : Addr} {oe : Obj} {cls : Value} {d : Option Addr} {pn : List (Addr × Obj)} {K : PySem.W.Frag} (hK : X.K = K) (hz : Zc cls d oe) (hf : ∃ vs, oe.data = .fields vs) : CallR (X.suite a ((a, oe) :: pn)) (.builtin "isinstance") (rIsEQ K a cls d) := by
  subst hK
  intro pins s σ H xs us Q I r h
  obtain ⟨D, C, b, rfl, rfl, hC, rfl, hk, q⟩ := h
  exact call_isE hC hz hf pins s σ H _ us Q I r ⟨.ref C, .ref C, b, rfl, fun u hu => hu, hk, q⟩
section
variable {σ : L2.St} {H : Hp} {D : Ends}
theorem x_callS {sp : Sp} {E : L2.St → XK} {t : TA} {Q : VK} (h : t σ H fun vs H1 => sp vs H1 Q (E σ)) : tCallS sp E t σ H Q := h
end
/-- a method's call within a try: what it raises is wished for at the slots as they stand -/
def tMethX (C : Addr) (m : Str) (sp : Sp) (E : L2.St → XK) (ta : TE) (t : TA) : TE := fun σ H Q => ta σ H fun x H1 => ∃ a dx fs, x = .ref a ∧ H1 a = some (.ins C dx fs) ∧ fs.lookup m = none ∧ t σ H1 fun vs H2 => sp (x :: vs) H2 Q (E σ)
theorem pe_methX {X : Cx} {CX : CXT} {k : Nat} {f C : Addr} {fd : FuncData} {ps : List Str} {sp : Sp} {E : L2.St → XK} {m : Str} {pos apos : Pos} {e o : Expr} {es : List Expr} {ta : TE} {t : TA} {pl : Sem Bool} (he : PE X o ta) (c : Cls X.K C) (hm : Meth X.K C m f)
    (F : FnOk X.prog X.w X.K X.mg X.base CX k f fd ps sp) (hr : Room k X.A) (hb : Binds X.K fd ps []) (hx : ∀ σ, PassesAt CX X σ (E σ)) (ha : PA X (e :: es) t)
    (hst : starEach (e :: es) X.env = (false, eval e X.env) :: starEach es X.env := by rfl) (hpl : (backTo pos (starEach es X.env)).any (·.1) = false := by rfl)
    (ht : eval (.Call (.Attribute o m apos) (e :: es) [] pos) X.env = (do
      let ov ← eval o X.env
      standAt apos.atName
      let (f, first) ← holding [ov] (getMethod ov m pl)
      callWith pos f first (backTo pos (starEach (e :: es) X.env)) (backToKw pos (keywordEach [] X.env))) := by rfl) :
    PE X (.Call (.Attribute o m apos) (e :: es) [] pos) (tMethX C m sp E ta t) := by
  refine ⟨fun pins s σ H Q I h => ?_⟩
  refine PySem.W.methodCall_KW (pl := pl) (thn (he.run pins s σ H _ I h) fun u s1 ⟨x, H1, I1, rx, a, dx, fs, ex, ea, l, q⟩ => ?_) ht
  subst ex
  obtain rfl : u = Value.ref a := rx
  refine getmeth_ok I1 ea c hm l ?_
  refine PySem.W.callWith_K (first := [.ref a]) (h₀ := X.base) I.ok.mod.kin hm.kp (thn (ha.run pos pins s1 σ H1 _ I1 q) fun us s2 ⟨vs, H2, I2, r, q2⟩ => ⟨I2.kIn, ?_⟩) hst hpl
  exact run_fnS (us := .ref a :: us) (vs := .ref a :: vs) F hr hb (hx σ) I2 (.cons rfl r) q2
theorem x_methX {C : Addr} {m : Str} {sp : Sp} {E : L2.St → XK} {ta : TE} {t : TA} {σ : L2.St} {H : Hp} {Q : VK} (h : ta σ H fun x H1 => ∃ a dx fs, x = .ref a ∧ H1 a = some (.ins C dx fs) ∧ fs.lookup m = none ∧ t σ H1 fun vs H2 => sp (x :: vs) H2 Q (E σ)) : tMethX C m sp E ta t σ H Q := h
/-! texts with numbers -/
theorem x_fmt {te : TE} {σ : L2.St} {H : Hp} {Q : VK} (h : te σ H fun x H1 => (∃ y : Str, x = .str y ∧ y.length ≤ sizeLine ∧ Q (.str y) H1) ∨ ∃ i : Int, x = .int i ∧ i.natAbs.log2 < 1920 ∧ Q (.str (toString i)) H1) : tFmt te σ H Q := h
theorem len_nat {n : Nat} (h : n < 10 ^ 10) : (Str.ofString (toString (n : Int))).length ≤ 10 := toString_length_le (Int.natCast_nonneg n) (by decide) (by exact_mod_cast h)
theorem log_nat {n : Nat} (h : n < 2 ^ 64) : ((n : Int)).natAbs.log2 < 1920 := by
  rw [Int.natAbs_natCast]
  by_cases h0 : n = 0
  · subst h0; decide
  · have := (Nat.log2_lt h0).mpr h
    omega
end Br
/-! isinstance(e, (C1, C2, ..)), e what the suite holds -/
namespace Br
open PySem PySem.Spec PyProof.Rows L2
def rIsEQT (K : PySem.W.Frag) (a : Addr) (cls : Value) (d : Option Addr) : List V → Hp → VK → Prop := fun xs H Q => ∃ (D tp : Addr) (cs : List V) (us : List Value) (b : Bool), cls = .ref D ∧ d = none ∧ ExcC K D ∧ xs = [.ref a, .ref tp] ∧ H tp = some (.tup cs) ∧ Paired ClsV cs us ∧ PySem.W.kitAny K (.ref D) us = some b ∧ Q (.bl b) H
theorem call_isEQT {X : Cx} {a : Addr} {oe : Obj} {cls : Value} {d : Option Addr} {pn : List (Addr × Obj)} {K : PySem.W.Frag} (hK : X.K = K) (hz : Zc cls d oe) (hf : ∃ vs, oe.data = .fields vs) : CallR (X.suite a ((a, oe) :: pn)) (.builtin "isinstance") (rIsEQT K a cls d) := by
  subst hK
  intro pins s σ H xs us Q I r h
  obtain ⟨D, tp, cs, ws, b, rfl, rfl, C, rfl, hT, k, e, q⟩ := h
  obtain ⟨u1, u2, rfl, rx, rt⟩ := vals2 r
  cases (show u2 = Value.ref tp from rt)
  cases (show u1 = Value.ref a from rx)
  obtain ⟨hget, _⟩ := I.pin (a, oe) (List.mem_append.mpr (.inl List.mem_cons_self))
  obtain ⟨vs, hv⟩ := hf
  have J : PySem.W.InstAt s.heap a oe D none := by
    obtain ⟨oc, od, oda, osl⟩ := oe
    obtain ⟨h1, h2⟩ := hz
    dsimp only at h1 h2 hv
    subst h1 h2 hv
    exact ⟨hget, rfl, rfl, trivial⟩
  obtain ⟨_, its, rv, o, h1, h2, n, h3⟩ := (show ObjOk _ _ H s.heap tp (.tup cs) from I.hok tp _ hT)
  have e3 := ClsV.all k rv
  subst e3
  obtain ⟨oc, od, dt, sl⟩ := o
  simp only at h2 h3
  subst h2 h3
  exact PySem.W.kia_tup (PySem.W.handS_kitx_exc C.hg C.hk C.hs C.hd C.ha C.hn C.ht C.hm) I.kIn J h1 e (fun z => nomatch z) fun tk => ⟨.bl b, H, I.kept (t' := tk) fun _ _ z => z, rfl, q⟩
end Br
namespace Br
open PySem PySem.Spec PyProof.Rows L2
/-! isinstance(e, ValueError), e what the suite holds -/
def rIsEV (K : PySem.W.Frag) (a : Addr) (cls : Value) (d : Option Addr) : List V → Hp → VK → Prop := fun xs H Q => ∃ (D : Addr) (T : String) (b : Bool), cls = .ref D ∧ d = none ∧ ExcC K D ∧ xs = [.ref a, .ty T] ∧ PySem.W.kitOne K (.ref D) (.type T) = some b ∧ Q (.bl b) H
theorem call_isEV {X : Cx} {a : Addr} {oe : Obj} {cls : Value} {d : Option Addr} {pn : List (Addr × Obj)} {K : PySem.W.Frag} (hK : X.K = K) (hz : Zc cls d oe) (hf : ∃ vs, oe.data = .fields vs) : CallR (X.suite a ((a, oe) :: pn)) (.builtin "isinstance") (rIsEV K a cls d) := by
  subst hK
  intro pins s σ H xs us Q I r h
  obtain ⟨D, T, b, rfl, rfl, hC, rfl, hk, q⟩ := h
  exact call_isE hC hz hf pins s σ H _ us Q I r ⟨.ty T, .type T, b, rfl, fun u hu => hu, hk, q⟩
theorem kit_val {K : PySem.W.Frag} {D : Addr} (h : PySem.W.subIn K (.ref D) (.type "ValueError") = some true) : PySem.W.kitOne K (.ref D) (.type "ValueError") = some true := by
  unfold PySem.W.kitOne
  rw [if_neg (by rw [show ((Value.ref D : Value) == Value.type "ValueError") = false from rfl]; decide)]
  show (if PySem.W.kitMeta "ValueError" = true then PySem.W.subIn K (.ref D) (.type "ValueError") else none) = some true
  rw [if_pos (by decide +kernel)]
  exact h
end Br

namespace Br
open PySem
/-- a sleeping generator that can't be woken -/
def numb : GenState → GenState
  | .suspended _ l c p fs cl => .suspended (fun _ => .unsupported "") l c p fs cl
  | y => y
def asleep : GenState → Bool
  | .suspended .. => true
  | _ => false
/-- no frame of a generator stands in what it left -/
def neat : GenState → Prop
  | .suspended _ _ _ _ fs _ => splitAtGen fs = none
  | _ => True
def endNeat : End → Prop
  | .ret _ => True
  | .susp _ _ _ _ _ _ fs => splitAtGen fs = none
theorem neat_end : ∀ {e : End}, endNeat e → neat e.genState
  | .ret _, _ => trivial
  | .susp .., h => h
/-- what stands at i in truth -/
def truly (G : Array GenState) (i : Nat) (x : GenState) : GenState := match G[i]? with
  | some y => if asleep y = true then y else x
  | none => x
/-- the state in truth -/
def wakeful (G : Array GenState) (s : Shared) : Shared := { s with gens := s.gens.mapIdx (truly G) }
/-- all that slept in G sleeps numb; what else sleeps is neat -/
structure Numb (G : Array GenState) (s : Shared) : Prop where
  sz : G.size ≤ s.gens.size
  at_ : ∀ (i : Nat) (y : GenState), G[i]? = some y → asleep y = true → s.gens[i]? = some (numb y)
  rest : ∀ (i : Nat) (x : GenState), s.gens[i]? = some x → (∀ y, G[i]? = some y → asleep y = false) → neat x
section
variable {G : Array GenState} {s : Shared}
theorem wk_get {i : Nat} {x : GenState} (h : s.gens[i]? = some x) : (wakeful G s).gens[i]? = some (truly G i x) := by
  show (s.gens.mapIdx (truly G))[i]? = _
  rw [Array.getElem?_mapIdx, h]; rfl
theorem seen_numb {y : GenState} : (numb y).seen = y.seen := by cases y <;> rfl
theorem wk_seen (N : Numb G s) {i : Nat} {x : GenState} (h : s.gens[i]? = some x) : (truly G i x).seen = x.seen := by
  unfold truly
  cases e : G[i]? with
  | none => rfl
  | some y =>
    show (if asleep y = true then y else x).seen = _
    by_cases a : asleep y = true
    · rw [if_pos a]
      have := N.at_ i y e a
      rw [h] at this
      cases this
      exact seen_numb.symm
    · rw [if_neg a]
theorem truly_of {i : Nat} (h : ∀ y, G[i]? = some y → asleep y = false) (x : GenState) : truly G i x = x := by
  unfold truly
  cases e : G[i]? with
  | none => rfl
  | some y =>
    show (if asleep y = true then y else x) = _
    rw [if_neg (by rw [h y e]; decide)]
/-- one that is not numb -/
theorem Numb.live (N : Numb G s) {i : Nat} {x : GenState} (h : s.gens[i]? = some x) (hx : ∀ y, asleep y = true → x ≠ numb y) : ∀ y, G[i]? = some y → asleep y = false := fun y e => by
  cases a : asleep y with
  | false => rfl
  | true =>
    have := N.at_ i y e a
    rw [h] at this
    exact absurd (Option.some.inj this) (hx y a)
theorem wide {x : GenState} (hx : asleep x = false) : ∀ y, asleep y = true → x ≠ numb y := fun y a z => by
  subst z
  cases y <;> first | (cases a; done) | exact Bool.noConfusion (show true = false from hx)
theorem wk_set {g : Nat} {x : GenState} (h : ∀ y, G[g]? = some y → asleep y = false) : wakeful G (s.setGen g x) = (wakeful G s).setGen g x := by
  show ({ s with gens := (s.gens.setIfInBounds g x).mapIdx (truly G) } : Shared) = { s with gens := (s.gens.mapIdx (truly G)).setIfInBounds g x }
  congr 1
  refine Array.ext (by simp) fun i h1 h2 => ?_
  simp only [Array.getElem_mapIdx, Array.getElem_setIfInBounds]
  by_cases e : g = i
  · subst e; simp [truly_of h]
  · rw [Array.getElem_setIfInBounds_ne (by simpa using h1) e, Array.getElem_setIfInBounds_ne (by simpa using h2) e]
    simp
theorem Numb.set (N : Numb G s) {g : Nat} {x : GenState} (h : ∀ y, G[g]? = some y → asleep y = false) (hx : neat x) : Numb G (s.setGen g x) where
  sz := by show G.size ≤ (s.gens.setIfInBounds g x).size; rw [Array.size_setIfInBounds]; exact N.sz
  at_ := fun i y e a => by
    show (s.gens.setIfInBounds g x)[i]? = _
    rw [Array.getElem?_setIfInBounds]
    have hne : g ≠ i := fun z => by subst z; rw [h y e] at a; cases a
    rw [if_neg hne]
    exact N.at_ i y e a
  rest := fun i z e hz => by
    have e' : (s.gens.setIfInBounds g x)[i]? = some z := e
    rw [Array.getElem?_setIfInBounds] at e'
    by_cases hg : g = i
    · rw [if_pos hg] at e'
      by_cases hl : g < s.gens.size
      · rw [if_pos hl] at e'; cases e'; exact hx
      · rw [if_neg hl] at e'; cases e'
    · rw [if_neg hg] at e'; exact N.rest i z e' hz
theorem wk_push {c : Code} (N : Numb G s) : wakeful G { s with gens := s.gens.push (.fresh c) } = { wakeful G s with gens := (wakeful G s).gens.push (.fresh c) } := by
  show ({ s with gens := (s.gens.push (.fresh c)).mapIdx (truly G) } : Shared) = { s with gens := (s.gens.mapIdx (truly G)).push (.fresh c) }
  congr 1
  have hn : G[s.gens.size]? = none := Array.getElem?_eq_none (by have := N.sz; omega)
  refine Array.ext (by simp) fun i h1 h2 => ?_
  simp only [Array.getElem_mapIdx, Array.getElem_push]
  by_cases e : i < s.gens.size
  · simp [e]
  · have hi : i = s.gens.size := by simp at h1; omega
    subst hi
    simp [truly, hn]
theorem Numb.push (N : Numb G s) {c : Code} : Numb G { s with gens := s.gens.push (.fresh c) } where
  sz := by show G.size ≤ (s.gens.push (.fresh c)).size; rw [Array.size_push]; have := N.sz; omega
  at_ := fun i y e a => by
    have h := N.at_ i y e a
    have hi := (Array.getElem?_eq_some_iff.mp h).1
    show (s.gens.push (.fresh c))[i]? = _
    rw [Array.getElem?_push, if_neg (by omega)]
    exact h
  rest := fun i z e hz => by
    have e' : (s.gens.push (.fresh c))[i]? = some z := e
    rw [Array.getElem?_push] at e'
    by_cases hi : i = s.gens.size
    · rw [if_pos hi] at e'; cases e'; trivial
    · rw [if_neg hi] at e'; exact N.rest i z e' hz
theorem wk_size : (wakeful G s).gens.size = s.gens.size := by show (s.gens.mapIdx (truly G)).size = _; simp
/-- any state, numbed, is itself in truth -/
theorem numbed (s : Shared) : Numb s.gens { s with gens := s.gens.map numb } ∧ wakeful s.gens { s with gens := s.gens.map numb } = s := by
  refine ⟨⟨by simp, fun i y e a => by simp [e], fun i x e h => ?_⟩, ?_⟩
  · have e' : (s.gens.map numb)[i]? = some x := e
    rw [Array.getElem?_map] at e'
    cases q : s.gens[i]? with
    | none => rw [q] at e'; cases e'
    | some y =>
      rw [q] at e'
      cases e'
      have := h y q
      cases y with
      | suspended => cases this
      | _ => trivial
  · show ({ s with gens := (s.gens.map numb).mapIdx (truly s.gens) } : Shared) = s
    have : (s.gens.map numb).mapIdx (truly s.gens) = s.gens := by
      refine Array.ext (by simp) fun i h1 h2 => ?_
      simp only [Array.getElem_mapIdx, Array.getElem_map]
      have e : s.gens[i]? = some s.gens[i] := Array.getElem?_eq_getElem h2
      unfold truly
      rw [e]
      show (if asleep s.gens[i] = true then s.gens[i] else numb s.gens[i]) = _
      cases q : s.gens[i] <;> rfl
    rw [this]
end
theorem split_app {fs gs : List Frame} (h : splitAtGen fs = none) (h2 : splitAtGen gs = none) : splitAtGen (fs ++ gs) = none := by
  induction fs with
  | nil => exact h2
  | cons F fs ih =>
    cases F with
    | gen g k l c p => cases h
    | ret k x g l c p kp =>
      have h' : (splitAtGen fs).map (fun x => ((Frame.ret k ‹_› g l c p kp) :: x.1, x.2.1, x.2.2)) = none := h
      rw [Option.map_eq_none_iff] at h'
      show (splitAtGen (fs ++ gs)).map _ = none
      rw [ih h']; rfl
theorem split_tail {k h g l c p kp} {fs : List Frame} (h0 : splitAtGen (Frame.ret k h g l c p kp :: fs) = none) : splitAtGen fs = none := by
  have h' : (splitAtGen fs).map (fun x => ((Frame.ret k h g l c p kp) :: x.1, x.2.1, x.2.2)) = none := h0
  rw [Option.map_eq_none_iff] at h'
  exact h'
theorem runs_stuck {M : Model} {Γ : Ctx} {p : Pos} {t : Sem PySem.Fin} {fs : List Frame} {s s' : Shared} {e : End} (h : Runs M Γ p t fs s e s') : t = .unsupported "" → False := by
  induction h <;> intro z <;> first | (cases z; done) | (subst z; simp_all; done) | skip
/-- a run that meets none of those that sleep numb goes the same way in truth -/
theorem runs_wk {M : Model} {G : Array GenState} {Γ : Ctx} {p : Pos} {t : Sem PySem.Fin} {fs : List Frame} {s s' : Shared} {e : End} (h : Runs M Γ p t fs s e s') :
    splitAtGen fs = none → Numb G s → Runs M Γ p t fs (wakeful G s) e (wakeful G s') ∧ Numb G s' ∧ endNeat e := by
  induction h with
  | done => exact fun _ N => ⟨.done, N, trivial⟩
  | raise => exact fun _ N => ⟨.raise, N, trivial⟩
  | again hq _ ih => exact fun h N => let ⟨a, b, c⟩ := ih h N; ⟨.again hq a, b, c⟩
  | rule _ ih => exact fun h N => let ⟨a, b, c⟩ := ih h N; ⟨.rule a, b, c⟩
  | «at» _ ih => exact fun h N => let ⟨a, b, c⟩ := ih h N; ⟨.at a, b, c⟩
  | load ho _ ih => exact fun h N => let ⟨a, b, c⟩ := ih h N; ⟨.load ho a, b, c⟩
  | update ho _ ih => exact fun h N => let ⟨a, b, c⟩ := ih h ⟨N.sz, N.at_, N.rest⟩; ⟨.update ho a, b, c⟩
  | loadIfAlive _ ih => exact fun h N => let ⟨a, b, c⟩ := ih h N; ⟨.loadIfAlive a, b, c⟩
  | point _ ih => exact fun h N => let ⟨a, b, c⟩ := ih h N; ⟨.point a, b, c⟩
  | alloc _ ih => exact fun h N => let ⟨a, b, c⟩ := ih h ⟨N.sz, N.at_, N.rest⟩; ⟨.alloc a, b, c⟩
  | fresh _ ih => exact fun h N => let ⟨a, b, c⟩ := ih h ⟨N.sz, N.at_, N.rest⟩; ⟨.fresh a, b, c⟩
  | ask _ ih => exact fun h N => let ⟨a, b, c⟩ := ih h N; ⟨.ask a, b, c⟩
  | choose hn _ ih => exact fun h N => let ⟨a, b, c⟩ := ih h ⟨N.sz, N.at_, N.rest⟩; ⟨.choose hn a, b, c⟩
  | os _ ih => exact fun h N => let ⟨a, b, c⟩ := ih h ⟨N.sz, N.at_, N.rest⟩; ⟨.os a, b, c⟩
  | handled _ ih => exact fun h N => let ⟨a, b, c⟩ := ih h N; ⟨.handled a, b, c⟩
  | genState hg _ ih => exact fun h N => let ⟨a, b, c⟩ := ih h N; ⟨.genState (wk_get hg) (by rw [wk_seen N hg]; exact a), b, c⟩
  | stack _ ih => exact fun h N => let ⟨a, b, c⟩ := ih h N; ⟨.stack a, b, c⟩
  | thread _ ih => exact fun h N => let ⟨a, b, c⟩ := ih h N; ⟨.thread a, b, c⟩
  | newGen _ ih =>
    intro h N
    obtain ⟨a, b, c⟩ := ih h N.push
    refine ⟨.newGen ?_, b, c⟩
    rw [wk_push N] at a
    rw [wk_size]
    exact a
  | call _ _ ih1 ih2 =>
    intro h N
    obtain ⟨a1, b1, _⟩ := ih1 rfl N
    obtain ⟨a2, b2, c2⟩ := ih2 h b1
    exact ⟨.call a1 a2, b2, c2⟩
  | callSusp _ ih =>
    intro h N
    obtain ⟨a, b, c⟩ := ih rfl N
    exact ⟨.callSusp a, b, split_app c rfl⟩
  | yield => exact fun _ N => ⟨.yield, N, rfl⟩
  | resumeFresh hg _ hq _ ih1 ih2 =>
    intro h N
    have L := N.live hg (wide rfl)
    obtain ⟨a1, b1, c1⟩ := ih1 rfl (N.set L trivial)
    obtain ⟨a2, b2, c2⟩ := ih2 h (b1.set L (neat_end c1))
    rw [wk_set L] at a1 a2
    refine ⟨.resumeFresh ?_ a1 hq a2, b2, c2⟩
    rw [wk_get hg, truly_of L]
  | @resumeSuspended Γ p g r l k s k₀ l₀ c₀ p₀ fs cl e₁ s₁ e s' hg h1 hq _ ih1 ih2 =>
    intro h N
    have L := N.live hg fun y a z => by
      cases y <;> first | cases a | skip
      cases z
      exact runs_stuck h1 rfl
    have hn : splitAtGen fs = none := N.rest _ _ hg L
    obtain ⟨a1, b1, c1⟩ := ih1 hn (N.set L trivial)
    obtain ⟨a2, b2, c2⟩ := ih2 h (b1.set L (neat_end c1))
    rw [wk_set L] at a1 a2
    refine ⟨.resumeSuspended (l₀ := l₀) (cl := cl) ?_ a1 hq a2, b2, c2⟩
    rw [wk_get hg, truly_of L]
  | resumeJustStarted hg hv _ ih =>
    intro h N
    have L := N.live hg (wide rfl)
    obtain ⟨a, b, c⟩ := ih h N
    exact ⟨.resumeJustStarted (by rw [wk_get hg, truly_of L]) hv a, b, c⟩
  | resumeThrowFresh hg _ ih =>
    intro h N
    have L := N.live hg (wide rfl)
    obtain ⟨a, b, c⟩ := ih h (N.set L trivial)
    rw [wk_set L] at a
    exact ⟨.resumeThrowFresh (by rw [wk_get hg, truly_of L]) a, b, c⟩
  | resumeRunning hg _ ih =>
    intro h N
    have L := N.live hg (wide rfl)
    obtain ⟨a, b, c⟩ := ih h N
    exact ⟨.resumeRunning (by rw [wk_get hg, truly_of L]) a, b, c⟩
  | resumeFinished hg _ ih =>
    intro h N
    have L := N.live hg (wide rfl)
    obtain ⟨a, b, c⟩ := ih h N
    exact ⟨.resumeFinished (by rw [wk_get hg, truly_of L]) a, b, c⟩
  | segRet _ _ ih1 ih2 =>
    intro h N
    obtain ⟨a1, b1, _⟩ := ih1 rfl N
    obtain ⟨a2, b2, c2⟩ := ih2 (split_tail h) b1
    exact ⟨.segRet a1 a2, b2, c2⟩
  | segGen => intro h; cases h
  | segSuspOut hs _ ih =>
    intro h N
    obtain ⟨a, b, c⟩ := ih rfl N
    exact ⟨.segSuspOut hs a, b, split_app c h⟩
  | segSuspGen hs => intro h; rw [h] at hs; cases hs
theorem wakes_wk {M : Model} {G : Array GenState} {Γ : Ctx} {p : Pos} {g : Nat} {r : Resume} {s s' : Shared} {res : GenResult} (h : Wakes M Γ p g r s res s') (N : Numb G s) : Wakes M Γ p g r (wakeful G s) res (wakeful G s') ∧ Numb G s' := by
  have hk : ∀ {α : Type} (k : GenResult → Sem PySem.Fin), True := fun _ => trivial
  unfold Wakes at h ⊢
  cases hg : s.gens[g]? with
  | none => simp only [hg] at h
  | some x =>
    rw [wk_get hg]
    simp only [hg] at h
    cases x with
    | fresh c =>
      have L := N.live hg (wide rfl)
      rw [truly_of L]
      cases r with
      | send v =>
        by_cases hv : v = .none
        · subst hv
          obtain ⟨e₁, s₁, h₁, hq, rfl, rfl⟩ := h
          obtain ⟨a1, b1, c1⟩ := runs_wk h₁ rfl (N.set L trivial)
          rw [wk_set L] at a1
          exact ⟨⟨e₁, _, a1, hq, rfl, wk_set L⟩, b1.set L (neat_end c1)⟩
        · have h' : res = .justStarted ∧ s' = s := by cases v <;> first | exact absurd rfl hv | exact h
          obtain ⟨rfl, rfl⟩ := h'
          refine ⟨?_, N⟩
          cases v <;> first | exact absurd rfl hv | exact ⟨rfl, rfl⟩
      | throw e =>
        obtain ⟨rfl, rfl⟩ := h
        exact ⟨⟨rfl, wk_set L⟩, N.set L trivial⟩
    | suspended k₀ l₀ c₀ p₀ fs cl =>
      obtain ⟨e₁, s₁, h₁, hq, rfl, rfl⟩ := h
      have L := N.live hg fun y a z => by
        cases y <;> first | cases a | skip
        cases z
        exact runs_stuck h₁ rfl
      rw [truly_of L]
      have hn : splitAtGen fs = none := N.rest _ _ hg L
      obtain ⟨a1, b1, c1⟩ := runs_wk h₁ hn (N.set L trivial)
      rw [wk_set L] at a1
      exact ⟨⟨e₁, _, a1, hq, rfl, wk_set L⟩, b1.set L (neat_end c1)⟩
    | running =>
      obtain ⟨rfl, rfl⟩ := h
      have L := N.live hg (wide rfl)
      rw [truly_of L]
      exact ⟨⟨rfl, rfl⟩, N⟩
    | finished =>
      obtain ⟨rfl, rfl⟩ := h
      have L := N.live hg (wide rfl)
      rw [truly_of L]
      exact ⟨⟨rfl, rfl⟩, N⟩
open Sem (wp)
theorem wp_wk {α : Type} (M : Model) (Γ : Ctx) (G : Array GenState) (t : Sem α) : ∀ (Q : α → Pos → Shared → Prop) (E : Value → Pos → Shared → Prop) (p : Pos) (s : Shared), Numb G s → wp M Γ t Q E p s →
    wp M Γ t (fun a p' s' => ∃ z, s' = wakeful G z ∧ Numb G z ∧ Q a p' z) (fun e p' s' => ∃ z, s' = wakeful G z ∧ Numb G z ∧ E e p' z) p (wakeful G s) := by
  induction t with
  | pure a => intro Q E p s N h; exact ⟨s, rfl, N, h⟩
  | raise e => intro Q E p s N h; exact ⟨s, rfl, N, h⟩
  | unsupported _ => intro Q E p s _ h; exact h
  | finish _ => intro Q E p s _ h; exact h
  | rule _ k ih => intro Q E p s N h; exact ih () Q E p s N h
  | «at» p' k ih => intro Q E p s N h; exact ih () Q E p' s N h
  | load a _ k ih => intro Q E p s N h; obtain ⟨o, ho, h⟩ := h; exact ⟨o, ho, ih o Q E p s N h⟩
  | update a _ f k ih => intro Q E p s N h; exact ⟨h.1, ih () Q E p { s with heap := s.heap.update a f } ⟨N.sz, N.at_, N.rest⟩ h.2⟩
  | loadIfAlive a k ih => intro Q E p s N h; exact ih _ Q E p s N h
  | point _ k ih => intro Q E p s N h; exact ih () Q E p s N h
  | register _ _ => intro Q E p s _ h; exact h
  | alloc o k ih => intro Q E p s N h; exact ih _ Q E p { s with heap := s.heap.push o } ⟨N.sz, N.at_, N.rest⟩ h
  | fresh k ih => intro Q E p s N h; exact ih _ Q E p { s with toks := s.toks + 1 } ⟨N.sz, N.at_, N.rest⟩ h
  | ask k ih => intro Q E p s N h; exact ih _ Q E p s N h
  | choose src m k ih => intro Q E p s N h; exact ⟨h.1, ih _ Q E p { s with drawn := s.drawn.bump src } ⟨N.sz, N.at_, N.rest⟩ h.2⟩
  | os q _ k ih => intro Q E p s N h; exact ih _ Q E p { s with os := (Os.step s.os q).1 } ⟨N.sz, N.at_, N.rest⟩ h
  | call c hd _ _ k ih =>
    intro Q E p s N h
    obtain ⟨r, s', hr, h⟩ := h
    obtain ⟨a, b, _⟩ := runs_wk (G := G) hr rfl N
    exact ⟨r, _, a, ih r Q E p s' b h⟩
  | handled own k ih => intro Q E p s N h; exact ih _ Q E p s N h
  | genState g k ih => intro Q E p s N h; obtain ⟨st, hs, h⟩ := h; exact ⟨_, wk_get hs, by rw [wk_seen N hs]; exact ih _ Q E p s N h⟩
  | newGen c k ih =>
    intro Q E p s N h
    have h2 := ih _ Q E p { s with gens := s.gens.push (.fresh c) } N.push h
    rw [wk_push N] at h2
    show wp M Γ (k (wakeful G s).gens.size) _ _ p _
    rw [wk_size]
    exact h2
  | resume g r _ k ih =>
    intro Q E p s N h
    obtain ⟨res, s', hw, h⟩ := h
    obtain ⟨a, b⟩ := wakes_wk hw N
    exact ⟨res, _, a, ih res Q E p s' b h⟩
  | yield _ _ _ _ => intro Q E p s _ h; exact h
  | stack k ih => intro Q E p s N h; exact ih _ Q E p s N h
  | fork _ _ => intro Q E p s _ h; exact h
  | thread k ih => intro Q E p s N h; exact ih _ Q E p s N h
  | await _ _ _ _ _ => intro Q E p s _ h; exact h
/-- THE RULE: a run that is shown from the numbed state keeps, from the true one, every generator that slept -/
theorem wpAny_wk {α : Type} {M : Model} {A : Around} {t : Sem α} {Q : α → Shared → Prop} {E : Value → Shared → Prop} {s : Shared} (h : wpAny M A t Q E { s with gens := s.gens.map numb }) :
    wpAny M A t (fun a s' => ∃ z, s' = wakeful s.gens z ∧ Numb s.gens z ∧ Q a z) (fun e s' => ∃ z, s' = wakeful s.gens z ∧ Numb s.gens z ∧ E e z) s := fun Γ p hΓ => by
  obtain ⟨N, e⟩ := numbed s
  have := wp_wk M Γ s.gens t _ _ p _ N (h Γ p hΓ)
  rw [e] at this
  exact this
theorem wk_kept {G : Array GenState} {z : Shared} (N : Numb G z) {g : Nat} {y : GenState} (h : G[g]? = some y) (a : asleep y = true) : (wakeful G z).gens[g]? = some y := by
  rw [wk_get (N.at_ g y h a)]
  unfold truly
  rw [h]
  show some (if asleep y = true then y else _) = _
  rw [if_pos a]
theorem numb_bare {y : GenState} : (numb y).bare = y.bare := by cases y <;> rfl
end Br

namespace Br
open PySem PySem.Spec PyProof.Rows L2 GenW
/-! ### a generator that sleeps while its consumer works -/
/-- the heap's first n records -/
def cutH (n : Nat) (h : Heap) : Heap := { h with objs := h.objs.extract 0 n }
theorem cutH_size {n : Nat} {h : Heap} (hn : n ≤ h.objs.size) : (cutH n h).objs.size = n := by
  show (h.objs.extract 0 n).size = n
  rw [Array.size_extract]; omega
theorem cutH_get {n : Nat} {h : Heap} {a : Addr} (ha : a < n) : (cutH n h).get? a = h.get? a := by
  have e : (h.objs.extract 0 n)[a]? = h.objs[a]? := by
    rw [Array.getElem?_extract, Nat.zero_add]
    by_cases q : a < min n h.objs.size - 0
    · rw [if_pos q]
    · rw [if_neg q]
      exact (Array.getElem?_eq_none (Nat.le_of_not_lt fun z => q (Nat.lt_min.mpr ⟨ha, z⟩))).symm
  have x1 : ∀ o, (cutH n h).get? a = some o ↔ h.get? a = some o := fun o => by
    rw [Heap.get?_some_iff, Heap.get?_some_iff]
    show (h.objs.extract 0 n)[a]? = some o ∧ _ ↔ _
    rw [e]
  cases q : h.get? a with
  | some o => exact (x1 o).mpr q
  | none =>
    cases q2 : (cutH n h).get? a with
    | none => rfl
    | some o => rw [(x1 o).mp q2] at q; cases q
theorem cutH_of {n : Nat} {h : Heap} {a : Addr} {o : Obj} (e : (cutH n h).get? a = some o) : a < n ∧ h.get? a = some o := by
  have h1 : a < n := by
    have := Heap.lt_size e
    have z : (h.objs.extract 0 n).size ≤ n := by rw [Array.size_extract]; omega
    exact Nat.lt_of_lt_of_le this z
  exact ⟨h1, (cutH_get h1).symm.trans e⟩
def cutS (n : Nat) (s : Shared) : Shared := { s with heap := cutH n s.heap }
def lowH (n : Nat) (H : Hp) : Hp := fun b => if b < n then H b else none
theorem lowH_lt {n : Nat} {H : Hp} {b : Addr} (h : b < n) : lowH n H b = H b := if_pos h
theorem lowH_some {n : Nat} {H : Hp} {b : Addr} {u : HO} (h : lowH n H b = some u) : H b = some u := by
  unfold lowH at h
  split at h
  · exact h
  · cases h
theorem funs_cut {L : Nat} {h h0 base : Heap} (hs : h0.objs.size ≤ L) : ∀ {l : List Env}, h.FunFrames base l → h0.FunFrames base l → (cutH L h).FunFrames base l
  | [], _, _ => trivial
  | _ :: _, ⟨k, ⟨b, o, e1, e2, e3, e4⟩, r⟩, ⟨_, ⟨b2, _, f1, _, f3, _⟩, r2⟩ => by
    have hb : b = b2 := by rw [e1] at f1; exact Option.some.inj f1
    refine ⟨k, ⟨b, o, e1, e2, ?_, e4⟩, funs_cut hs r r2⟩
    rw [cutH_get]
    · exact e3
    · rw [hb]; exact Nat.lt_of_lt_of_le (Heap.lt_size f3) hs
/-- the context of a generator's body at one stretch of its run -/
def gcx (P : Program) (w : World) (K : PySem.W.Frag) (mg : Str → Option Value) (base : Heap) (A : Around) (N : List Str) (outer : List Env) (env : Env) (s0 : Shared) (H0 : Hp) : Cx :=
  { prog := P, w := w, K := K, mg := mg, base := base, A := A, N := N, s_0 := s0, H_0 := H0, env := env, outer := outer, stack := env :: outer, ex := [], fn := fun _ => true, calm := true, pn := [], xe := fun _ _ => False }
/-- what stands for itself stays -/
def ExtK (H H' : Hp) : Prop := ∀ b φ, H b = some (.ext φ) → H' b = some (.ext φ)
theorem ExtK.refl {H : Hp} : ExtK H H := fun _ _ h => h
theorem ExtK.trans {H H1 H2 : Hp} (a : ExtK H H1) (b : ExtK H1 H2) : ExtK H H2 := fun x φ h => b x φ (a x φ h)
/-- as the generator wakes: its own lists, and each other thing that is younger than its frame stands for itself -/
def wakeH (L : Addr) (ks : List Addr) (H : Hp) (h : Heap) : Hp := fun b => if b ∈ ks then H b else if L < b then (h.get? b).map fun o => .ext fun h' => h'.get? b = some o else none
/-- what its consumer leaves as it was while it sleeps -/
structure Awk (P : Program) (w : World) (base : Heap) (outer : List Env) (L : Addr) (sh : List (Addr × List V)) (ks : List Addr) (s s2 : Shared) : Prop where
  bare : AllBare s2.gens
  own : ∀ b, b = L ∨ (b ∈ ks ∧ L < b) → ∀ o, s.heap.get? b = some o → s2.heap.get? b = some o
  shr : ∀ p ∈ sh, ∀ H : Hp, ObjOk P w H s2.heap p.1 (.lst p.2)
  bas : ∀ b o, base.get? b = some o → s2.heap.get? b = some o
  funs : s2.heap.FunFrames base outer
section
variable {P : Program} {w : World} {K : PySem.W.Frag} {mg : Str → Option Value} {base : Heap} {A : Around} {N : List Str} {outer : List Env} {env : Env} {s0 : Shared} {H0 : Hp} {σ : L2.St} {H : Hp} {s s2 : Shared} {sh : List (Addr × List V)} {ks : List Addr}
theorem wake_inv (I : Inv (gcx P w K mg base A N outer env s0 H0) [] σ H s) (hc : ∀ x, env.cells.lookup x = none) (hks : ∀ b ∈ ks, ∃ xs, H b = some (.lst xs)) (hsh : ∀ b ∈ ks, b < env.locals → ∃ xs, (b, xs) ∈ sh ∧ H b = some (.lst xs))
    (aw : Awk P w base outer env.locals sh ks s s2) : Inv (gcx P w K mg base A N outer env (cutS env.locals s2) (lowH env.locals (wakeH env.locals ks H s2.heap))) [] σ (wakeH env.locals ks H s2.heap) s2 := by
  have ok := I.ok
  have nc : ∀ x c, List.lookup x env.cells = some c → False := fun x c e => by rw [hc x] at e; cases e
  have hLk : env.locals ∉ ks := fun z => by
    obtain ⟨xs, e⟩ := hks _ z
    rw [show H env.locals = none from I.free] at e; cases e
  obtain ⟨m, hns, hl⟩ := I.loc
  have hns2 : s2.heap.Ns env.locals m := by
    obtain ⟨o, es, ep, ho, r⟩ := hns
    exact ⟨o, es, ep, aw.own _ (.inl rfl) o ho, r⟩
  have hL : env.locals < s2.heap.objs.size := hns2.lt
  have hle : base.objs.size ≤ env.locals := Nat.le_trans ok.bsz ok.above
  have wb : ∀ b, b < env.locals → b ∉ ks → wakeH env.locals ks H s2.heap b = none := fun b h1 h2 => by
    unfold wakeH
    rw [if_neg h2, if_neg (Nat.lt_asymm h1)]
  have bnk : ∀ b o, base.get? b = some o → b ∉ ks := fun b o e z => by
    obtain ⟨xs, q⟩ := hks b z
    rw [(I.bs b o e).2] at q; cases q
  have fnk : ∀ b ∈ frs outer, b ∉ ks ∧ b < env.locals := fun b hb => by
    refine ⟨fun z => ?_, ?_⟩
    · obtain ⟨xs, q⟩ := hks b z
      have : H b = none := by
        obtain ⟨_, o, ho, _⟩ := ok.funs.mem hb
        exact I.base.free b o ho (ok.frf b hb) (by simp [gcx])
      rw [this] at q; cases q
    · obtain ⟨_, o, ho, _⟩ := ok.funs.mem hb
      exact Nat.lt_of_lt_of_le (Heap.lt_size ho) ok.above
  refine ⟨⟨ok.mod, ok.kind, ok.glob, ok.blt, ?_, ok.inj, ok.has, fun x c _ e => ?_, ok.hd, ok.frames, ok.stk, fun b z => ?_, fun b o e => ?_, ?_, fun b o _ z => ?_, fun b z => ?_, ?_, fun b hb => ?_⟩, rfl, aw.bare, ?_, ⟨m, hns2, fun i y v h1 h2 h3 => ?_⟩, fun x c e => ?_, ?_, fun x c e => ?_, fun p hp => ?_, fun b o e => ?_, I.len⟩
  · show (cutH env.locals s2.heap).objs.size ≤ env.locals
    rw [cutH_size (Nat.le_of_lt hL)]
    exact Nat.le_refl _
  · exact (nc _ _ e).elim
  · exact absurd z (by simp [gcx])
  · have hb : b < env.locals := Nat.lt_of_lt_of_le (Heap.lt_size e) hle
    refine ⟨(cutH_get hb).trans (aw.bas b o e), ?_⟩
    show lowH env.locals _ b = none
    rw [lowH_lt hb]
    exact wb b hb (bnk b o e)
  · show base.objs.size ≤ (cutH env.locals s2.heap).objs.size
    rw [cutH_size (Nat.le_of_lt hL)]
    exact hle
  · exact absurd z (by simp [gcx])
  · exact absurd z (by simp [gcx])
  · exact funs_cut ok.above aw.funs ok.funs
  · obtain ⟨h1, h2⟩ := fnk b hb
    show lowH env.locals _ b = none
    rw [lowH_lt h2]
    exact wb b h2 h1
  · refine ⟨fun b o e _ _ _ => (cutH_of e).2, fun b o e _ _ _ => ⟨o.slots, (cutH_of e).2⟩, fun b o e hn _ => ?_, fun b o e _ => ⟨o, (cutH_of e).2⟩, fun b xs e => lowH_some e, fun b o u e => lowH_some e, fun b ps e => ⟨#[], by rw [lowH_some e]; simp⟩⟩
    rw [← hn]
    exact (lowH_lt (cutH_of e).1).symm
  · obtain ⟨u, r, q⟩ := hl i y v h1 h2 h3
    refine ⟨u, r, ?_⟩
    rcases q with q | ⟨_, c, e, _⟩
    · exact .inl q
    · exact (nc _ _ e).elim
  · exact (nc _ _ e).elim
  · show wakeH env.locals ks H s2.heap env.locals = none
    unfold wakeH
    rw [if_neg hLk, if_neg (Nat.lt_irrefl _)]
  · exact (nc _ _ e).elim
  · exact absurd hp (by simp [gcx])
  · by_cases hk : b ∈ ks
    · have e' : H b = some o := by
        have q : wakeH env.locals ks H s2.heap b = H b := if_pos hk
        rw [← q]; exact e
      obtain ⟨xs, hx⟩ := hks b hk
      rw [hx] at e'; cases e'
      by_cases hb : b < env.locals
      · obtain ⟨ys, h1, h2⟩ := hsh b hk hb
        rw [hx] at h2; cases h2
        exact aw.shr _ h1 _
      · have hb' : env.locals < b := Nat.lt_of_le_of_ne (Nat.le_of_not_lt hb) fun z => hLk (z ▸ hk)
        obtain ⟨z, its, k, r, q⟩ := I.hok b _ hx
        exact ⟨z, its, k, r, aw.own b (.inr ⟨hk, hb'⟩) _ q⟩
    · unfold wakeH at e
      rw [if_neg hk] at e
      by_cases hb : env.locals < b
      · rw [if_pos hb] at e
        cases q : s2.heap.get? b with
        | none => rw [q] at e; cases e
        | some ob =>
          rw [q] at e
          cases e
          exact ⟨q, ⟨ob, q⟩, fun h1 h2 z k => k ob z⟩
      · rw [if_neg hb] at e; cases e
end
end Br

namespace Br
open PySem
/-- no record comes back, none is taken out of the row -/
def Dead (h h' : Heap) : Prop := h.objs.size ≤ h'.objs.size ∧ ∀ b, b < h.objs.size → h.get? b = none → h'.get? b = none
theorem Dead.refl {h : Heap} : Dead h h := ⟨Nat.le_refl _, fun _ _ z => z⟩
theorem Dead.trans {a b c : Heap} (x : Dead a b) (y : Dead b c) : Dead a c := ⟨Nat.le_trans x.1 y.1, fun q h z => y.2 q (Nat.lt_of_lt_of_le h x.1) (x.2 q h z)⟩
theorem dead_push {h : Heap} {o : Obj} : Dead h (h.push o) := by
  have hs : (h.push o).objs.size = h.objs.size + 1 := Heap.size_push ..
  refine ⟨by rw [hs]; exact Nat.le_succ _, fun b hb z => ?_⟩
  cases q : (h.push o).get? b with
  | none => rfl
  | some u =>
    obtain ⟨e, f⟩ := Heap.get?_some_iff.mp q
    have e' : h.objs[b]? = some u := by
      have : (h.objs.push o)[b]? = some u := e
      rwa [Array.getElem?_push, if_neg (Nat.ne_of_lt hb)] at this
    rw [Heap.get?_some_iff.mpr ⟨e', f⟩] at z
    cases z
theorem dead_update {h : Heap} {a : Addr} {f : Obj → Obj} (ha : (h.get? a).isSome = true) : Dead h (h.update a f) := by
  have hs : (h.update a f).objs.size = h.objs.size := by
    show (h.objs.modify a f).size = _
    simp
  refine ⟨by rw [hs]; exact Nat.le_refl _, fun b hb z => ?_⟩
  by_cases hab : a = b
  · subst hab; rw [z] at ha; cases ha
  · rw [Heap.get?_update_other _ _ hab]; exact z
theorem runs_dead {M : Model} {Γ : Ctx} {p : Pos} {t : Sem PySem.Fin} {fs : List Frame} {s s' : Shared} {e : End} (h : Runs M Γ p t fs s e s') : Dead s.heap s'.heap := by
  induction h with
  | update ho _ ih => exact (dead_update ho).trans ih
  | alloc _ ih => exact dead_push.trans ih
  | call _ _ ih1 ih2 => exact ih1.trans ih2
  | resumeFresh _ _ _ _ ih1 ih2 => exact ih1.trans ih2
  | resumeSuspended _ _ _ _ ih1 ih2 => exact ih1.trans ih2
  | segRet _ _ ih1 ih2 => exact ih1.trans ih2
  | segGen _ _ ih1 ih2 => exact ih1.trans ih2
  | segSuspGen _ _ _ _ ih1 ih2 => exact ih1.trans ih2
  | _ => first | exact Dead.refl | assumption
theorem wakes_dead {M : Model} {Γ : Ctx} {p : Pos} {g : Nat} {r : Resume} {s s' : Shared} {res : GenResult} (h : Wakes M Γ p g r s res s') : Dead s.heap s'.heap := by
  unfold Wakes at h
  split at h
  · exact h.elim
  · split at h
    · obtain ⟨e₁, s₁, hr, _, _, rfl⟩ := h
      exact (show Dead s.heap s₁.heap from (runs_dead hr : _))
    · rw [h.2]; exact Dead.refl
    · rw [h.2]; exact Dead.refl
  · obtain ⟨e₁, s₁, hr, _, _, rfl⟩ := h
    exact (show Dead s.heap s₁.heap from (runs_dead hr : _))
  · rw [h.2]; exact Dead.refl
  · rw [h.2]; exact Dead.refl
open Sem (wp)
theorem wp_dead {α : Type} (M : Model) (Γ : Ctx) (h0 : Heap) (t : Sem α) : ∀ (Q : α → Pos → Shared → Prop) (E : Value → Pos → Shared → Prop) (p : Pos) (s : Shared), Dead h0 s.heap → wp M Γ t Q E p s →
    wp M Γ t (fun a p' s' => Dead h0 s'.heap ∧ Q a p' s') (fun e p' s' => Dead h0 s'.heap ∧ E e p' s') p s := by
  induction t with
  | pure a => intro Q E p s hn h; exact ⟨hn, h⟩
  | raise e => intro Q E p s hn h; exact ⟨hn, h⟩
  | load a _ k ih => intro Q E p s hn h; obtain ⟨o, ho, h⟩ := h; exact ⟨o, ho, ih o Q E p s hn h⟩
  | update a _ f k ih => intro Q E p s hn h; exact ⟨h.1, ih () Q E p { s with heap := s.heap.update a f } (hn.trans (dead_update h.1)) h.2⟩
  | alloc o k ih => intro Q E p s hn h; exact ih _ Q E p { s with heap := s.heap.push o } (hn.trans dead_push) h
  | choose src m k ih => intro Q E p s hn h; exact ⟨h.1, ih _ Q E p { s with drawn := s.drawn.bump src } hn h.2⟩
  | call c hd _ _ k ih => intro Q E p s hn h; obtain ⟨r, s', hr, h⟩ := h; exact ⟨r, s', hr, ih r Q E p s' (hn.trans (runs_dead hr)) h⟩
  | genState g k ih => intro Q E p s hn h; obtain ⟨st, hs, h⟩ := h; exact ⟨st, hs, ih _ Q E p s hn h⟩
  | resume g r _ k ih => intro Q E p s hn h; obtain ⟨res, s', hw, h⟩ := h; exact ⟨res, s', hw, ih res Q E p s' (hn.trans (wakes_dead hw)) h⟩
  | newGen c k ih => intro Q E p s hn h; exact ih _ Q E p { s with gens := s.gens.push (.fresh c) } hn h
  | fresh k ih => intro Q E p s hn h; exact ih _ Q E p { s with toks := s.toks + 1 } hn h
  | os q _ k ih => intro Q E p s hn h; exact ih _ Q E p { s with os := (Os.step s.os q).1 } hn h
  | «at» p' k ih => intro Q E p s hn h; exact ih () Q E p' s hn h
  | unsupported _ | finish _ | register _ _ | yield _ _ _ _ | fork _ _ | await _ _ _ _ _ => intro Q E p s _ h; exact h
  | _ => intro Q E p s hn h; rename_i ih; exact ih _ Q E p s hn h
theorem wpAny_dead {α : Type} {M : Model} {A : Around} {s : Shared} {t : Sem α} {Q : α → Shared → Prop} {E : Value → Shared → Prop} {h0 : Heap} (hn : Dead h0 s.heap) (h : wpAny M A t Q E s) : wpAny M A t (fun a s' => Dead h0 s'.heap ∧ Q a s') (fun e s' => Dead h0 s'.heap ∧ E e s') s :=
  fun Γ p hΓ => wp_dead M Γ h0 t _ _ p s hn (h Γ p hΓ)
end Br

namespace Br
open PySem PySem.Spec PyProof.Rows L2 GenW
/-- the lists that the generator's frame holds under these names -/
def ownK (nm : List Str) (L : Addr) (h : Heap) : List Addr := match h.get? L with
  | some ⟨_, _, .dict es _, _⟩ => nm.filterMap fun x => match nsFind es x with
    | some (.ref b) => some b
    | _ => none
  | _ => []
theorem ownK_eq {nm : List Str} {L : Addr} {h h' : Heap} {m : Str → Option Value} (n : h.Ns L m) (k : ∀ o, h.get? L = some o → h'.get? L = some o) : ownK nm L h' = ownK nm L h := by
  obtain ⟨o, es, ep, e, d, _⟩ := n
  unfold ownK
  rw [k o e, e]
theorem ownK_of {nm : List Str} {L : Addr} {h : Heap} {m : Str → Option Value} (n : h.Ns L m) : ownK nm L h = nm.filterMap fun x => match m x with
    | some (.ref b) => some b
    | _ => none := by
  obtain ⟨⟨cls, di, da, sl⟩, es, ep, e, d, _, f⟩ := n
  have d' : da = .dict es ep := d
  subst d'
  unfold ownK
  rw [e]
  show (nm.filterMap fun x => match nsFind es x with | some (.ref b) => some b | _ => none) = _
  congr 1
  funext x
  rw [f x]
/-- the lists that stood ahead of the stretch of item i -/
def startK (nm : List Str) (L : Addr) (sh : List (Addr × List V)) : Nat → Heap → List Addr
  | 0, _ => sh.map (·.1)
  | _ + 1, h => ownK nm L h
/-- what a stretch of the generator's run leaves as it was (ks: the lists that stood ahead of it) -/
structure Past (P : Program) (w : World) (outer : List Env) (L : Addr) (sh : List (Addr × List V)) (ks : List Addr) (s₀ s : Shared) (H : Hp) : Prop where
  os : s.os = s₀.os
  bare : AllBare s.gens
  hok : HOk P w H s.heap
  old : ∀ b o, b < L → b ∉ ks → s₀.heap.get? b = some o → b ∉ frs outer → s.heap.get? b = some o
  slot : ∀ b o, b < L → b ∉ ks → s₀.heap.get? b = some o → b ∈ frs outer → ∃ sl, s.heap.get? b = some { o with slots := sl }
  young : ∀ b o, L < b → b ∉ ks → s₀.heap.get? b = some o → s.heap.get? b = some o
  new : ∀ b xs, H b = some (.tup xs) → b ∉ ks → s₀.heap.get? b = none
  fresh : ∀ b xs, H b = some (.lst xs) → L < b → b ∉ ks → s₀.heap.get? b = none
  shr : ∀ p ∈ sh, ∀ H' : Hp, ObjOk P w H' s.heap p.1 (.lst p.2)
  loc : H L = none
  dead : Dead s₀.heap s.heap
/-- as a stretch runs: Hw is the heap at its start -/
structure Mid (P : Program) (w : World) (K : PySem.W.Frag) (mg : Str → Option Value) (base : Heap) (A : Around) (N : List Str) (outer : List Env) (env : Env) (ks : List Addr) (s₀ : Shared) (σ : L2.St) (H : Hp) (s : Shared) : Prop where
  inv : ∃ Hw, Inv (gcx P w K mg base A N outer env (cutS env.locals s₀) (lowH env.locals Hw)) [] σ H s ∧ ExtK Hw H ∧ (∀ b o, env.locals < b → b ∉ ks → s₀.heap.get? b = some o → Hw b = some (.ext fun h => h.get? b = some o)) ∧
    (∀ b, b < env.locals → b ∉ ks → Hw b = none)
  dead : Dead s₀.heap s.heap
section
variable {P : Program} {w : World} {K : PySem.W.Frag} {mg : Str → Option Value} {base : Heap} {A : Around} {N : List Str} {outer : List Env} {env : Env} {sh : List (Addr × List V)} {ks : List Addr} {s₀ s s' : Shared} {σ σ' : L2.St} {H H' : Hp}
theorem Mid.past (M : Mid P w K mg base A N outer env ks s₀ σ H s) (hs : ∀ p ∈ sh, H p.1 = some (.lst p.2)) : Past P w outer env.locals sh ks s₀ s H := by
  obtain ⟨⟨Hw, I, e, a, b⟩, dd⟩ := M
  have cut : ∀ c o, c < env.locals → s₀.heap.get? c = some o → (cutH env.locals s₀.heap).get? c = some o := fun c o h q => (cutH_get h).trans q
  have nn : ∀ c, c < env.locals → c ∉ ks → lowH env.locals Hw c = none := fun c h1 h2 => by rw [lowH_lt h1]; exact b c h1 h2
  refine ⟨I.os, I.bare, I.hok, fun c o h1 h2 h3 h4 => I.base.keep c o (cut c o h1 h3) (nn c h1 h2) h4 (by simp [gcx]), fun c o h1 h2 h3 h4 => I.base.slot c o (cut c o h1 h3) (nn c h1 h2) h4 (by simp [gcx]), fun c o h1 h2 h3 => ?_, fun c xs h hck => ?_, fun c xs h hc hck => ?_, fun p hp H' => ?_, I.free, dd⟩
  · have q := I.hok c _ (e c _ (a c o h1 h2 h3))
    exact q.1
  · cases q : s₀.heap.get? c with
    | none => rfl
    | some o =>
      rcases Nat.lt_trichotomy c env.locals with z | z | z
      · have := I.base.free c o (cut c o z q) (nn c z hck) (by simp [gcx])
        rw [h] at this; cases this
      · rw [z] at h
        rw [show H env.locals = none from I.free] at h; cases h
      · have := e c _ (a c o z hck q)
        rw [h] at this; cases this
  · cases q : s₀.heap.get? c with
    | none => rfl
    | some o =>
      have := e c _ (a c o hc hck q)
      rw [h] at this; cases this
  · exact I.hok _ _ (hs p hp)
end
/-- an old list of the generator's is a shared one -/
theorem Mid.oldK {P : Program} {w : World} {K : PySem.W.Frag} {mg : Str → Option Value} {base : Heap} {A : Around} {N : List Str} {outer : List Env} {env : Env} {sh : List (Addr × List V)} {s₀ s : Shared} {σ : L2.St} {H : Hp} (M : Mid P w K mg base A N outer env (sh.map (·.1)) s₀ σ H s) (hz : env.locals ≤ s₀.heap.objs.size) {b : Addr} (hb : b < env.locals) {xs : List V} (h : H b = some (.lst xs)) : ∃ xs, (b, xs) ∈ sh := by
  obtain ⟨⟨Hw, I, e, a, c⟩, d⟩ := M
  by_cases hk : b ∈ sh.map (·.1)
  · obtain ⟨p, hp, rfl⟩ := List.mem_map.mp hk
    exact ⟨p.2, hp⟩
  · exfalso
    obtain ⟨_, its, n, _, q⟩ := I.hok b _ h
    cases z : s₀.heap.get? b with
    | none =>
      have := d.2 b (Nat.lt_of_lt_of_le hb hz) z
      rw [q] at this; cases this
    | some o =>
      have := I.base.free b o ((cutH_get hb).trans z) (by show lowH env.locals Hw b = none; rw [lowH_lt hb]; exact c b hb hk) (by simp [gcx])
      rw [h] at this; cases this
/-- a generator's body, told: ahead of its loop, the loop's test, what it hands out, what follows; Head: at the test, Slp: asleep behind its item i -/
structure GenSpec (C : Shared → Hp → Cx) (L : Addr) (pre post : List Stmt) (test e : Expr) (sh : List (Addr × List V)) (nm N : List Str) (n : Nat) (items : Nat → List V) (σ0 : L2.St) where
  Head : Nat → List Addr → L2.St → Hp → Prop
  Slp : Nat → List Addr → L2.St → Hp → Prop
  p0 : ∀ s0 H0, ∃ t, PSs (C s0 H0) pre t ∧ ∀ H, (∀ p ∈ sh, H p.1 = some (.lst p.2)) → t { nx := fun σ' H' => (∃ ks, Head 0 ks σ' H') ∧ ExtK H H', rt := fun _ _ => False } σ0 H
  p1 : ∀ s0 H0, ∃ t1 t2, PT (C s0 H0) test t1 ∧ PE (C s0 H0) e t2 ∧ (∀ i ks σ H, i < n → Head i ks σ H → t1 σ H fun b H1 => b = true ∧ t2 σ H1 fun x H2 => ∃ r, x = .ref r ∧ H2 r = some (.tup (items i)) ∧ ExtK H H2 ∧ Slp i ks σ H2) ∧
    ∀ ks σ H, Head n ks σ H → t1 σ H fun b H1 => b = false ∧ ExtK H H1 ∧ ∀ p ∈ sh, H1 p.1 = some (.lst p.2)
  p3 : ∀ s0 H0, ∃ t, PSs (C s0 H0) post t ∧ ∀ i ks σ H, i < n → Slp i ks σ H → t { nx := fun σ' H' => Head (i + 1) ks σ' H' ∧ ExtK H H', rt := fun _ _ => False } σ H
  u3 : ∀ i ks σ H, Slp i ks σ H → (∀ b ∈ ks, ∃ xs, H b = some (.lst xs)) ∧ ∀ p ∈ sh, p.1 ∈ ks ∧ H p.1 = some (.lst p.2)
  u4 : ∀ i ks σ H H', Slp i ks σ H → (∀ b ∈ ks, H' b = H b) → Slp i ks σ H'
  u5 : ∀ i ks σ H, Slp i ks σ H → ks.length = nm.length ∧ ∀ (k : Nat) (x : Str) (b : Addr), nm[k]? = some x → ks[k]? = some b → ∃ j : Nat, N[j]? = some x ∧ σ[j]? = some (some (.ref b))
/-- an item is handed out -/
def YG (P : Program) (w : World) (base : Heap) (outer : List Env) (L : Addr) (sh : List (Addr × List V)) (nm : List Str) (N : Nat) (items : Nat → List V) : Protocol := fun n s₀ v s kap =>
  ∃ i H r, n + 1 + i = N ∧ v = .ref r ∧ H r = some (.tup (items i)) ∧ Past P w outer L sh (startK nm L sh i s₀.heap) s₀ s H ∧ (∀ p ∈ sh, p.1 ∈ ownK nm L s.heap) ∧ (∀ b ∈ ownK nm L s.heap, b < L → ∃ xs, (b, xs) ∈ sh) ∧ (∀ b ∈ ownK nm L s.heap, ∃ xs, H b = some (.lst xs)) ∧ (∀ b ∈ startK nm L sh i s₀.heap, ∃ xs, H b = some (.lst xs)) ∧
    (∀ b, b = L ∨ (b ∈ ownK nm L s.heap ∧ L < b) → ∃ o, s.heap.get? b = some o ∧ ∀ x, o.data ≠ .cell x) ∧ Awk P w base outer L sh (ownK nm L s.heap) s s ∧ ∀ s2, Awk P w base outer L sh (ownK nm L s.heap) s s2 → kap (.send .none) s2 ∧ kap (.send (.bool false)) s2
/-- it is at its end -/
def FG (P : Program) (w : World) (outer : List Env) (L : Addr) (sh : List (Addr × List V)) (nm : List Str) (N : Nat) : Nat → Shared → Shared → Prop := fun n s₀ s => n = 0 ∧ ∃ H, Past P w outer L sh (startK nm L sh N s₀.heap) s₀ s H
def RG (P : Program) (w : World) (outer : List Env) (L : Addr) (sh : List (Addr × List V)) (nm : List Str) (N : Nat) : GenEnd := fun n s₀ r s => ((r = .ok (.ret .none) ∨ r = .ok .next) ∧ FG P w outer L sh nm N n s₀ s) ∨ ∃ e, r = .error e ∧ False

section
variable {P : Program} {w : World} {K : PySem.W.Frag} {mg : Str → Option Value} {base : Heap} {Aw : Around} {N : List Str} {outer : List Env} {env : Env} {sh : List (Addr × List V)} {nm : List Str} {n : Nat} {items : Nat → List V} {σ0 : L2.St} {pre post : List Stmt} {test e : Expr} {yp epos : Pos}
theorem ks_own {s0 : Shared} {H0 H : Hp} {σ : L2.St} {s : Shared} {ks : List Addr} (hloc : ∀ x ∈ nm, env.kindOf x = some .local) (I : Inv (gcx P w K mg base (Aw.deeper env) N outer env s0 H0) [] σ H s)
    (h : ks.length = nm.length ∧ ∀ (k : Nat) (x : Str) (b : Addr), nm[k]? = some x → ks[k]? = some b → ∃ j : Nat, N[j]? = some x ∧ σ[j]? = some (some (.ref b))) : ownK nm env.locals s.heap = ks := by
  obtain ⟨m, hns, hl⟩ := I.loc
  have hns : s.heap.Ns env.locals m := hns
  rw [ownK_of hns]
  obtain ⟨h1, h2⟩ := h
  have hm : ∀ (k : Nat) (x : Str) (b : Addr), nm[k]? = some x → ks[k]? = some b → m x = some (.ref b) := fun k x b e1 e2 => by
    obtain ⟨j, j1, j2⟩ := h2 k x b e1 e2
    have hk := hloc x (List.mem_of_getElem? e1)
    obtain ⟨u, r, q⟩ := hl j x (.ref b) j1 j2 (.inl hk)
    have eu : u = Value.ref b := r
    subst eu
    rcases q with ⟨_, q⟩ | ⟨q, _⟩
    · exact q
    · have q' : env.kindOf x = some .cell ∨ env.kindOf x = some .free := q
      rw [hk] at q'
      rcases q' with q | q <;> cases q
  clear hl h2 hns hloc I
  induction nm generalizing ks with
  | nil => cases ks with
    | nil => rfl
    | cons b bs => simp at h1
  | cons x xs ih => cases ks with
    | nil => simp at h1
    | cons b bs =>
      have e0 := hm 0 x b rfl rfl
      rw [List.filterMap_cons, e0]
      show b :: _ = b :: bs
      rw [ih (ks := bs) (by simpa using h1) fun k y c e1 e2 => hm (k + 1) y c (by simpa using e1) (by simpa using e2)]
theorem seg_head (S : GenSpec (gcx P w K mg base (Aw.deeper env) N outer env) env.locals pre post test e sh nm N n items σ0) (hloc : ∀ x ∈ nm, env.kindOf x = some .local) (hcell : ∀ x, env.cells.lookup x = none) (hco : env.scope.isCoroutine = false) (hi : interactive env = false)
    {kk : Result → Sem PySem.Fin} {l kp : List Value} {p0 : Pos} {body : List Stmt} (hend : ∀ (m : Nat) (s₀ s : Shared), FG P w outer env.locals sh nm n m s₀ s → Seg (model P w) Aw (RG P w outer env.locals sh nm n) (YG P w base outer env.locals sh nm n items) m s₀ (.func body env) (kk (.ok .next)) [] s) :
    ∀ (m i : Nat) (ks : List Addr) (s₀ : Shared) (σ : L2.St) (H : Hp) (s : Shared), m + i = n → (0 < i → startK nm env.locals sh i s₀.heap = ks ∧ ∀ b ∈ ks, b < env.locals → ∃ xs, (b, xs) ∈ sh) → env.locals ≤ s₀.heap.objs.size → S.Head i ks σ H → Mid P w K mg base (Aw.deeper env) N outer env (startK nm env.locals sh i s₀.heap) s₀ σ H s →
      Seg (model P w) Aw (RG P w outer env.locals sh nm n) (YG P w base outer env.locals sh nm n items) m s₀ (.whileLoop test (.Expr (.Yield (some e) yp) epos :: post) [] env) ((model P w).den (.whileLoop test (.Expr (.Yield (some e) yp) epos :: post) [] env)) [.ret kk none false l (.func body env) p0 kp] s := by
  have hov : Aw.over (.whileLoop test (.Expr (.Yield (some e) yp) epos :: post) [] env) [.ret kk none false l (.func body env) p0 kp] = Aw.deeper env := (over_loop rfl rfl).trans over_func
  intro m
  induction m with
  | zero =>
    intro i ks s₀ σ H s hmi hst hz0 hh M
    have ei : i = n := by omega
    subst ei
    obtain ⟨⟨Hw, I, ex, a1, a2⟩, dd⟩ := M
    obtain ⟨t1, t2, p1, p2, u1, u1e⟩ := S.p1 _ _
    refine seg_whileLoop ?_
    rw [hov]
    refine wpAny_mono (wpAny_dead dd (p1.run [] s σ H _ I (u1e ks σ H hh))) (fun b s' hb => ?_) fun x s' hx => (show False from hx.2).elim
    obtain ⟨d2, H2, I2, q, x2, sh2⟩ := hb
    subst q
    rw [if_neg Bool.false_ne_true]
    refine seg_execs_nil ?_
    exact seg_leaf (.ok .next) (hend 0 s₀ s' ⟨rfl, H2, Mid.past ⟨⟨Hw, I2, ex.trans x2, a1, a2⟩, d2⟩ sh2⟩)
  | succ m ih =>
    intro i ks s₀ σ H s hmi hst hz0 hh M
    obtain ⟨⟨Hw, I, ex, a1, a2⟩, dd⟩ := M
    obtain ⟨t1, t2, p1, p2, u1, u1e⟩ := S.p1 _ _
    refine seg_whileLoop ?_
    rw [hov]
    refine wpAny_mono (wpAny_dead dd (p1.run [] s σ H _ I (u1 i ks σ H (by omega) hh))) (fun b s' hb => ?_) fun x s' hx => (show False from hx.2).elim
    obtain ⟨d1, H1, I1, q, q1⟩ := hb
    subst q
    rw [if_pos rfl]
    refine seg_execs_cons ?_
    refine seg_Expr_Yield rfl rfl rfl ?_ hco hi
    rw [hov]
    refine wpAny_mono (wpAny_dead d1 (p2.run [] s' σ H1 _ I1 q1)) (fun v s2 hv => ?_) fun x s' hx => (show False from hx.2).elim
    obtain ⟨d2, x, H2, I2, rv, r, ex1, hr, ex2, hslp⟩ := hv
    subst ex1
    obtain ⟨v1, v3⟩ := S.u3 i ks σ H2 hslp
    have v2a : ∀ b ∈ ks, b < env.locals → ∃ xs, (b, xs) ∈ sh := fun b hb hlt => by
      rcases Nat.eq_zero_or_pos i with hz | hz
      · subst hz
        obtain ⟨xs, q⟩ := v1 b hb
        exact Mid.oldK ⟨⟨Hw, I2, ex.trans ex2, a1, a2⟩, d2⟩ hz0 hlt q
      · exact (hst hz).2 b hb hlt
    have v2 : ∀ b ∈ ks, b < env.locals → ∃ xs, (b, xs) ∈ sh ∧ H2 b = some (.lst xs) := fun b hb hlt => by
      obtain ⟨xs, q⟩ := v2a b hb hlt
      exact ⟨xs, q, (v3 _ q).2⟩
    have hko : ownK nm env.locals s2.heap = ks := ks_own hloc I2 (S.u5 i ks σ H2 hslp)
    have hP := Mid.past (sh := sh) ⟨⟨Hw, I2, ex.trans ex2, a1, a2⟩, d2⟩ fun p hp => (v3 p hp).2
    obtain ⟨m2, hns, _⟩ := id I2.loc
    have hns : s2.heap.Ns env.locals m2 := hns
    intro kap hk
    refine ⟨i, H2, r, by omega, rv, hr, hP, ?_⟩
    rw [hko]
    refine ⟨fun p hp => (v3 p hp).1, fun b hb hlt => let ⟨xs, z, _⟩ := v2 b hb hlt; ⟨xs, z⟩, v1, fun b hb => ?_, fun b hb => ?_, ⟨I2.bare, fun b _ o q => q, hP.shr, I2.bk, I2.funs⟩, fun s3 aw => ?_⟩
    · rcases Nat.eq_zero_or_pos i with hz | hz
      · subst hz
        obtain ⟨p, hp, rfl⟩ := List.mem_map.mp hb
        exact ⟨_, (v3 p hp).2⟩
      · rw [(hst hz).1] at hb
        exact v1 b hb
    · rcases hb with hb | ⟨hb, _⟩
      · subst hb
        obtain ⟨o, es, ep, ho, hd, _⟩ := hns
        exact ⟨o, ho, fun x z => by rw [hd] at z; cases z⟩
      · obtain ⟨xs, hx⟩ := v1 b hb
        obtain ⟨_, its, k, _, q⟩ := I2.hok b _ hx
        exact ⟨_, q, fun x z => by cases z⟩
    · have I3 := wake_inv I2 hcell v1 v2 aw
      have hw : ∀ b ∈ ks, wakeH env.locals ks H2 s3.heap b = H2 b := fun b hb => if_pos hb
      have go : Seg (model P w) Aw (RG P w outer env.locals sh nm n) (YG P w base outer env.locals sh nm n items) m s3 (.whileLoop test (.Expr (.Yield (some e) yp) epos :: post) [] env) ((execs post env).wrap (fun f => match f with
            | .next | .cont => .pure (.again (.whileLoop test (.Expr (.Yield (some e) yp) epos :: post) [] env))
            | .brk => .pure (.done .next)
            | .ret v => .pure (.done (.ret v))) (fun x => (do noteFrame x env; theTreesLotGoes x : Sem Unit).wrap (fun _ => .raise x) .raise id id) id id) [.ret kk none false l (.func body env) p0 kp] s3 := by
        refine seg_wrap ?_
        rw [hov]
        obtain ⟨t3, p3, u2⟩ := S.p3 _ _
        refine wpAny_mono (wpAny_dead (Dead.refl (h := s3.heap)) (p3.run [] s3 σ _ _ I3 (u2 i ks σ _ (by omega) (S.u4 i ks σ H2 _ hslp hw)))) (fun f s4 hf => ?_) fun x s' hx => (show False from hx.2).elim
        obtain ⟨d4, hf⟩ := hf
        cases f with
        | next =>
          obtain ⟨σ4, H4, I4, h4, x4⟩ := hf
          have hst3 : startK nm env.locals sh (i + 1) s3.heap = ks := by rw [← hko]; exact ownK_eq hns fun o q => aw.own _ (.inl rfl) o q
          refine seg_again rfl (ih (i + 1) ks s3 σ4 H4 s4 (by omega) (fun _ => ⟨hst3, v2a⟩) (Nat.le_of_lt (show s3.heap.Ns env.locals _ from (let ⟨o, es, ep, q, r⟩ := hns; ⟨o, es, ep, aw.own _ (.inl rfl) o q, r⟩)).lt) h4 ⟨⟨_, I4, x4, fun b o h1 h2 h3 => ?_, fun b h1 h2 => ?_⟩, d4⟩)
          · have h2' : b ∉ ks := fun z => h2 (by rw [hst3]; exact z)
            unfold wakeH
            rw [if_neg h2', if_pos h1, h3]
            rfl
          · have h2' : b ∉ ks := fun z => h2 (by rw [hst3]; exact z)
            unfold wakeH
            rw [if_neg h2', if_neg (Nat.lt_asymm h1)]
        | brk => obtain ⟨_, _, _, q⟩ := hf; exact (show False from q).elim
        | cont => obtain ⟨_, _, _, q⟩ := hf; exact (show False from q).elim
        | ret u => obtain ⟨_, _, _, _, _, q⟩ := hf; exact (show False from q).elim
      exact ⟨hk .none s3 go, hk (.bool false) s3 go⟩
/-- ahead of the loop -/
theorem execs_pre {K' : Flow → Sem PySem.Fin} {H' : Value → Sem PySem.Fin} {gd : Bool → Bool} {lv : List Value → List Value} {w0 : Stmt} : ∀ pre : List Stmt,
    (execs (pre ++ [w0]) env).wrap K' H' gd lv = (execs pre env).wrap (fun f => match f with | .next => (execs [w0] env).wrap K' H' gd lv | f => K' f) H' gd lv
  | [] => rfl
  | st :: rest => by
    rw [List.cons_append, execs_cons_wrap, execs_cons_wrap, execs_pre rest]
    exact Sem.wrap_congr _ _ _ (fun f => by cases f <;> rfl) fun _ => rfl
/-- the whole body, from its start -/
theorem seg_body (S : GenSpec (gcx P w K mg base (Aw.deeper env) N outer env) env.locals pre post test e sh nm N n items σ0) (hloc : ∀ x ∈ nm, env.kindOf x = some .local) (hcell : ∀ x, env.cells.lookup x = none) (hco : env.scope.isCoroutine = false) (hi : interactive env = false)
    {wpos : Pos} {H : Hp} {s₀ : Shared} (M : Mid P w K mg base (Aw.deeper env) N outer env (sh.map (·.1)) s₀ σ0 H s₀) (hz : env.locals ≤ s₀.heap.objs.size) (hsh : ∀ p ∈ sh, H p.1 = some (.lst p.2)) :
    Seg (model P w) Aw (RG P w outer env.locals sh nm n) (YG P w base outer env.locals sh nm n items) n s₀ (.func (pre ++ [.While test (.Expr (.Yield (some e) yp) epos :: post) [] wpos]) env)
      ((model P w).den (.func (pre ++ [.While test (.Expr (.Yield (some e) yp) epos :: post) [] wpos]) env)) [] s₀ := by
  obtain ⟨⟨Hw, I, ex, a1, a2⟩, dd⟩ := M
  refine seg_func ?_
  rw [execs_pre]
  refine seg_wrap ?_
  rw [over_func]
  obtain ⟨t0, p0, u0⟩ := S.p0 _ _
  refine wpAny_mono (wpAny_dead dd (p0.run [] s₀ σ0 H _ I (u0 H hsh))) (fun f s1 hf => ?_) fun x s' hx => (show False from hx.2).elim
  obtain ⟨d1, hf⟩ := hf
  cases f with
  | next =>
    obtain ⟨σ1, H1, I1, ⟨ks, hh⟩, x1⟩ := hf
    refine seg_execs_cons ?_
    refine seg_While fun p => ?_
    refine seg_head S hloc hcell hco hi (fun m s₁ s' hF => ?_) n 0 ks s₀ σ1 H1 s1 (Nat.add_zero n) (fun z => absurd z (Nat.lt_irrefl 0)) hz hh ⟨⟨Hw, I1, ex.trans x1, a1, a2⟩, d1⟩
    exact seg_end (.ok (.ret .none)) (.inl ⟨.inl rfl, hF⟩)
  | brk => obtain ⟨_, _, _, q⟩ := hf; exact (show False from q).elim
  | cont => obtain ⟨_, _, _, q⟩ := hf; exact (show False from q).elim
  | ret u => obtain ⟨_, _, _, _, _, q⟩ := hf; exact (show False from q).elim
end
end Br

namespace Br
open PySem PySem.Spec PyProof.Rows L2 GenW
section
variable {X : Cx} {pins : List (Addr × Obj)} {σ : L2.St} {H H' Hg : Hp} {s' s₀ s s4 : Shared} {L : Addr} {sh : List (Addr × List V)} {sk : List Addr}
/-- the consumer behind a stretch of its generator's run, in any context -/
theorem Past.invB (Pa : Past X.prog X.w X.stack L sh sk s₀ s Hg) (I : Inv X pins σ H s') (e0 : s₀.heap = s'.heap) (e1 : s₀.os = s'.os) (hst : ∀ b ∈ frs X.stack, b < L)
    (hsh : ∀ p ∈ sh, H p.1 = some (.lst p.2)) (hsk : ∀ b ∈ sk, b < L → ∃ xs, (b, xs) ∈ sh) (hf : ∀ b, b = L ∨ (b ∈ sk ∧ L < b) → FpOk X pins H b)
    (hH : ∀ b, H' b = H b ∨ (H b = none ∧ s'.heap.get? b = none ∧ ∃ its, H' b = some (.tup its) ∧ Hg b = some (.tup its))) (o4 : s4.os = s.os) (b4 : AllBare s4.gens) (k4 : ∀ b o, s.heap.get? b = some o → s4.heap.get? b = some o) : Inv X pins σ H' s4 := by
  have f1 : H L = none := (hf L (.inl rfl)).1
  have f2 : ∀ b ∈ sk, L < b → H b = none := fun b h1 h2 => (hf b (.inr ⟨h1, h2⟩)).1
  have ffs : ∀ b ∈ frs X.stack, b < L := hst
  have kp : ∀ b o, s'.heap.get? b = some o → b ≠ L → b ∉ sk → b ∉ frs X.stack → s4.heap.get? b = some o := fun b o e h1 h2 h3 => by
    rw [← e0] at e
    rcases Nat.lt_or_gt_of_ne h1 with z | z
    · exact k4 _ _ (Pa.old b o z h2 e h3)
    · exact k4 _ _ (Pa.young b o z h2 e)
  have shl : ∀ b, b ∈ sk → b < L → ∃ xs, (b, xs) ∈ sh ∧ H b = some (.lst xs) := fun b h1 h2 => by
    obtain ⟨xs, z⟩ := hsk b h1 h2
    exact ⟨xs, z, hsh _ z⟩
  have nin : ∀ b, b ∉ L :: sk.filter (fun b => decide (L < b)) → b ≠ L ∧ (b ∈ sk → b < L) := fun b h => by
    refine ⟨fun z => h (z ▸ List.mem_cons_self), fun z => ?_⟩
    have h1 : b ≠ L := fun y => h (y ▸ List.mem_cons_self)
    rcases Nat.lt_or_gt_of_ne h1 with y | y
    · exact y
    · exact absurd (List.mem_cons_of_mem _ (List.mem_filter.mpr ⟨z, decide_eq_true y⟩)) h
  have lives : ∀ b o, s'.heap.get? b = some o → H' b = H b := fun b o e => by
    rcases hH b with z | ⟨_, z, _⟩
    · exact z
    · rw [e] at z; cases z
  refine I.call' (ch := L :: sk.filter (fun b => decide (L < b))) (o4.trans (Pa.os.trans e1)) ⟨fun b o e hn hb hc => ?_, fun b o e hn hb hc => ?_, fun b o e hn _ => ?_, fun b o e hc => ?_, fun b xs e => ?_, fun b o u e => ?_, fun b ps e => ?_⟩ (fun b o e => ?_) b4 fun b hb => ?_
  · obtain ⟨h1, h2⟩ := nin b hc
    refine kp b o e h1 (fun z => ?_) hb
    obtain ⟨xs, _, q⟩ := shl b z (h2 z)
    rw [hn] at q; cases q
  · obtain ⟨h1, h2⟩ := nin b hc
    obtain ⟨sl, q⟩ := Pa.slot b o (ffs b hb) (fun z => by
      obtain ⟨xs, _, q⟩ := shl b z (h2 z)
      rw [hn] at q; cases q) (by rw [e0]; exact e) hb
    exact ⟨sl, k4 _ _ q⟩
  · rw [lives b o e]; exact hn
  · obtain ⟨h1, h2⟩ := nin b hc
    by_cases hk : b ∈ sk
    · obtain ⟨xs, z, _⟩ := shl b hk (h2 hk)
      obtain ⟨_, its, n, _, q⟩ := Pa.shr _ z H
      exact ⟨_, k4 _ _ q⟩
    · by_cases hf : b ∈ frs X.stack
      · obtain ⟨sl, q⟩ := Pa.slot b o (ffs b hf) hk (by rw [e0]; exact e) hf
        exact ⟨_, k4 _ _ q⟩
      · exact ⟨_, kp b o e h1 hk hf⟩
  · rcases hH b with z | ⟨z, _⟩
    · rw [z]; exact e
    · rw [e] at z; cases z
  · rcases hH b with z | ⟨z, _⟩
    · rw [z]; exact e
    · rw [e] at z; cases z
  · rcases hH b with z | ⟨z, _⟩
    · exact ⟨#[], by rw [z, e]; simp⟩
    · rw [e] at z; cases z
  · rcases hH b with z | ⟨_, _, its, z, zg⟩
    · rw [z] at e
      by_cases hs : ∃ xs, (b, xs) ∈ sh
      · obtain ⟨xs, hs⟩ := hs
        have := hsh _ hs
        rw [e] at this
        cases this
        obtain ⟨y, its, n, r, q⟩ := Pa.shr _ hs H'
        exact ⟨y, its, n, r, k4 _ _ q⟩
      · refine (I.hok b o e).stay (fun c u hc q => ?_) (fun c q => ?_) fun c xs q => ?_
        · have hn : H c ≠ none := by
            rcases hc with y | y
            · rw [y, e]; intro h; cases h
            · rw [y]; intro h; cases h
          refine kp c u q (fun y => hn (y ▸ f1)) (fun y => ?_) fun y => hn (I.stkFree c y)
          rcases Nat.lt_trichotomy c L with t | t | t
          · obtain ⟨xs, y1, y2⟩ := shl c y t
            rcases hc with y | y
            · exact hs ⟨xs, y ▸ y1⟩
            · rw [y] at y2; cases y2
          · exact hn (t ▸ f1)
          · exact hn (f2 c y t)
        · rcases hH c with y | ⟨y, _⟩
          · rw [y]; exact q
          · rw [q] at y; cases y
        · rcases hH c with y | ⟨y, _⟩
          · rw [y]; exact q
          · rw [q] at y; cases y
    · rw [z] at e
      cases e
      obtain ⟨y, its', r, ob, q, c⟩ := Pa.hok b _ zg
      exact ⟨y, its', r, ob, k4 _ _ q, c⟩
  · have hb : b = L ∨ (b ∈ sk ∧ L < b) := by
      rcases List.mem_cons.mp hb with z | z
      · exact .inl z
      · exact .inr ⟨(List.mem_filter.mp z).1, of_decide_eq_true (List.mem_filter.mp z).2⟩
    obtain ⟨_, q1, _, q2, q3, q4⟩ := hf b hb
    exact ⟨q2, q1, q3, q4⟩
/-- the consumer behind a stretch of its generator's run -/
theorem Past.inv (Pa : Past X.prog X.w X.stack L sh sk s₀ s Hg) (I : Inv X pins σ H s') (e0 : s₀.heap = s'.heap) (e1 : s₀.os = s'.os) (hX0 : X.s_0.heap.objs.size ≤ L) (hXl : X.env.locals < L) (hXc : ∀ x c, X.env.cells.lookup x = some c → c < L) (hXp : ∀ p ∈ X.pn ++ pins, p.1 < L)
    (hsh : ∀ p ∈ sh, H p.1 = some (.lst p.2)) (hsk : ∀ b ∈ sk, b < L → ∃ xs, (b, xs) ∈ sh) (f1 : H L = none) (f2 : ∀ b ∈ sk, L < b → H b = none)
    (hH : ∀ b, H' b = H b ∨ (H b = none ∧ s'.heap.get? b = none ∧ ∃ its, H' b = some (.tup its) ∧ Hg b = some (.tup its))) (o4 : s4.os = s.os) (b4 : AllBare s4.gens) (k4 : ∀ b o, s.heap.get? b = some o → s4.heap.get? b = some o) : Inv X pins σ H' s4 := by
  have ffs : ∀ b ∈ frs X.stack, b < L := fun b hb => by
    rcases List.mem_cons.mp (I.stkSub b hb) with z | z
    · rw [z]; exact hXl
    · obtain ⟨_, o, ho, _⟩ := I.ok.funs.mem z
      exact Nat.lt_of_lt_of_le (Heap.lt_size ho) hX0
  refine Pa.invB I e0 e1 ffs hsh hsk (fun b hb => ?_) hH o4 b4 k4
  have hle : L ≤ b := by
    rcases hb with z | z
    · exact z ▸ Nat.le_refl _
    · exact Nat.le_of_lt z.2
  refine ⟨?_, fun z => Nat.lt_irrefl _ (Nat.lt_of_lt_of_le (z ▸ hXl) hle), fun z => ?_, .inr (Nat.le_trans hX0 hle), fun x c e z => Nat.lt_irrefl _ (Nat.lt_of_lt_of_le (z ▸ hXc x c e) hle), fun p hp z => Nat.lt_irrefl _ (Nat.lt_of_lt_of_le (z ▸ hXp p hp) hle)⟩
  · rcases hb with z | z
    · rw [z]; exact f1
    · exact f2 b z.1 z.2
  · obtain ⟨_, o, ho, _⟩ := I.ok.funs.mem z
    exact Nat.lt_irrefl _ (Nat.lt_of_lt_of_le (Nat.lt_of_lt_of_le (Heap.lt_size ho) hX0) hle)
/-- the generators stand elsewhere -/
theorem Inv.gens {g' : Array GenState} (I : Inv X pins σ H s) (h : AllBare g') : Inv X pins σ H { s with gens := g' } := ⟨I.ok, I.os, h, I.base, I.loc, I.cell, I.free, I.freeC, I.pin, I.hok, I.len⟩
theorem bare_numb (h : AllBare s.gens) : AllBare (s.gens.map numb) := fun y hy => by
  obtain ⟨x, hx, rfl⟩ := Array.mem_map.mp hy
  rw [numb_bare]; exact h x hx
theorem bare_wake {G : Array GenState} (hG : AllBare G) (h : AllBare s.gens) : AllBare (wakeful G s).gens := fun y hy => by
  obtain ⟨i, hi, rfl⟩ := Array.mem_iff_getElem.mp hy
  have e : (wakeful G s).gens[i]? = some (wakeful G s).gens[i] := Array.getElem?_eq_getElem hi
  have hi' : i < s.gens.size := by rw [wk_size] at hi; exact hi
  have e2 : s.gens[i]? = some s.gens[i] := Array.getElem?_eq_getElem hi'
  rw [wk_get e2] at e
  rw [← Option.some.inj e]
  unfold truly
  cases q : G[i]? with
  | none => exact h _ (Array.getElem_mem hi')
  | some x =>
    show (if asleep x = true then x else s.gens[i]).bare = true
    by_cases a : asleep x = true
    · rw [if_pos a]
      obtain ⟨hx, ex⟩ := Array.getElem?_eq_some_iff.mp q
      rw [← ex]
      exact hG _ (Array.getElem_mem hx)
    · rw [if_neg a]; exact h _ (Array.getElem_mem hi')
/-- the consumer's state lets the generator wake -/
theorem awk_of {pins' : List (Addr × Obj)} {ks : List Addr} {s5 : Shared} (I : Inv X pins' σ H s5) (hown : ∀ b, b = L ∨ (b ∈ ks ∧ L < b) → ∀ o, s.heap.get? b = some o → s5.heap.get? b = some o) (hsh : ∀ p ∈ sh, H p.1 = some (.lst p.2)) {g : Nat} : Awk X.prog X.w X.base X.stack L sh ks s (s5.setGen g .running) :=
  ⟨allBare_setGen I.bare rfl, hown, fun p hp H' => I.hok _ _ (hsh p hp), I.bk, I.stack⟩
end
end Br

namespace Br
open PySem PySem.Spec PyProof.Rows L2 GenW
abbrev SpG4 := List V → Hp → List (Addr × List V) → Nat → (Nat → List V) → Prop
/-- a generator def, known -/
structure GenFn (P : Program) (w : World) (K : PySem.W.Frag) (mg : Str → Option Value) (base : Heap) (k : Nat) (f : Addr) (ps : List Str) (spec : SpG4) where
  name : Str
  qual : Str
  params : Arguments
  pre : List Stmt
  post : List Stmt
  test : Expr
  e : Expr
  yp : Pos
  epos : Pos
  wpos : Pos
  scope : Scope
  dV : Value
  kV : Value
  doc : Value
  pm : Value
  cdv : Value
  ct : Value
  oc : Value
  an : Option Addr
  od : Option Addr
  osl : Array (Option Value)
  N : List Str
  nm : List Str
  lk : K.lookup f = some ⟨oc, od, .func (PySem.W.fnOf name qual params (pre ++ [.While test (.Expr (.Yield (some e) yp) epos :: post) [] wpos]) scope dV kV doc pm an cdv ct), osl⟩
  hcd : PySem.W.codeIn K cdv qual = true
  S : GScope N ps scope
  loc : ∀ x ∈ nm, scope.names.lookup x = some .local
  noc : ∀ n x, (cellsFrom n scope.names []).lookup x = none
  inter : ∀ L, interactive (envOfC qual scope L f cdv) = false
  len : ∀ vs H sh n items, spec vs H sh n items → vs.length = ps.length
  pos : ∀ vs H sh n items, spec vs H sh n items → 0 < n
  body : ∀ (A : Around) (outer : List Env) (L : Addr) vs H sh n items, Room k (A.deeper (envOfC qual scope L f cdv)) → spec vs H sh n items →
    Nonempty (GenSpec (gcx P w K mg base (A.deeper (envOfC qual scope L f cdv)) N outer (envOfC qual scope L f cdv)) L pre post test e sh nm N n items (start N vs))
def GenFn.fd {P : Program} {w : World} {K : PySem.W.Frag} {mg : Str → Option Value} {base : Heap} {k : Nat} {f : Addr} {ps : List Str} {spec : SpG4} (G : GenFn P w K mg base k f ps spec) : FuncData := PySem.W.fnOf G.name G.qual G.params (G.pre ++ [.While G.test (.Expr (.Yield (some G.e) G.yp) G.epos :: G.post) [] G.wpos]) G.scope G.dV G.kV G.doc G.pm G.an G.cdv G.ct
theorem objok_ex {P : Program} {w : World} {H : Hp} {h : Heap} {a : Addr} {o : HO} (x : ObjOk P w H h a o) : ∃ ob, h.get? a = some ob := by
  cases o with
  | lst xs => obtain ⟨_, _, _, _, e⟩ := x; exact ⟨_, e⟩
  | tup xs => obtain ⟨_, _, _, ob, e, _⟩ := x; exact ⟨_, e⟩
  | dK kvs => obtain ⟨_, _, _, _, o, _, _, e, _⟩ := x; exact ⟨_, e⟩
  | dT kvs => obtain ⟨_, _, _, _, o, _, _, e, _⟩ := x; exact ⟨_, e⟩
  | set S n => obtain ⟨o, _, _, _, e, _⟩ := x; exact ⟨_, e⟩
  | ins C dx fs => obtain ⟨_, _, _, e, _⟩ := x; exact ⟨_, e⟩
  | own y => exact x
  | xd fs => obtain ⟨_, ⟨_, _, _, e, _⟩, _⟩ := x; exact ⟨_, e⟩
  | rng lo hi => obtain ⟨_, _, _, e⟩ := x; exact ⟨_, e⟩
  | frz ob u => obtain ⟨e, _⟩ := x; exact ⟨_, e⟩
  | tbl ps => exact ⟨_, x⟩
  | met f y => exact ⟨_, x⟩
  | ext φ => obtain ⟨_, e, _⟩ := x; exact e
theorem ownK_same {nm : List Str} {L : Addr} {h h' : Heap} (e : h'.get? L = h.get? L) : ownK nm L h' = ownK nm L h := by unfold ownK; rw [e]
/-- as the consumer's loop stands ahead of item i -/
structure Stand (X : Cx) (pins : List (Addr × Obj)) (L a : Addr) (g : Nat) (sh : List (Addr × List V)) (nm : List Str) (n : Nat) (items : Nat → List V) (W : Nat → L2.St → Hp → Prop) (i : Nat) (σ : L2.St) (H : Hp) (s : Shared) : Prop where
  inv : Inv X pins σ H s
  w : W i σ H
  gen : s.heap.IsGen a g
  goes : ∃ gs, s.gens[g]? = some gs ∧ gs.Goes (model X.prog X.w) X.A.in1 (RG X.prog X.w X.stack L sh nm n) (YG X.prog X.w X.base X.stack L sh nm n items) (n - i) (.send .none) (s.setGen g .running)
  nL : H L = none
  na : H a = none
  ks : ∀ b ∈ startK nm L sh i s.heap, (b < L → ∃ xs, (b, xs) ∈ sh) ∧ (L < b → H b = none) ∧ b ≠ a
def tForG (spec : SpG4) (t : TA) (g : TG) (tb : TS) : TS := fun D σ H => t σ H fun vs H1 => ∃ sh n items, spec vs H1 sh n items ∧ (∀ p ∈ sh, H1 p.1 = some (.lst p.2)) ∧ ∃ W : Nat → L2.St → Hp → Prop, W 0 σ H1 ∧ (∀ i σ' H', i ≤ n → W i σ' H' → ∀ p ∈ sh, H' p.1 = some (.lst p.2)) ∧
  (∀ i σ' H', i < n → W i σ' H' → ∀ r, H' r = none → g (.ref r) σ' (upd H' r (.tup (items i))) fun σ2 H2 => tb { D with nx := W (i + 1), ct := W (i + 1), bk := D.nx } σ2 H2) ∧ ∀ σ' H', W n σ' H' → D.nx σ' H'
section
variable {X : Cx} {pins : List (Addr × Obj)} {L a : Addr} {g n : Nat} {sh : List (Addr × List V)} {nm : List Str} {items : Nat → List V} {W : Nat → L2.St → Hp → Prop} {i : Nat} {σ : L2.St} {H : Hp} {s : Shared} {tg : Expr} {body : List Stmt} {tgg : TG} {tb : TS} {D : Ends}
theorem stand_end (hx : ∀ u s, ¬ X.xe u s) (hc : X.calm = true) (hd : X.A.depth < recursionLimit) (hX0 : X.s_0.heap.objs.size ≤ L) (hXl : X.env.locals < L) (hXc : ∀ x c, X.env.cells.lookup x = some c → c < L) (hXp : ∀ p ∈ X.pn ++ pins, p.1 < L)
    (wsh : ∀ i σ' H', i ≤ n → W i σ' H' → ∀ p ∈ sh, H' p.1 = some (.lst p.2)) (St : Stand X pins L a g sh nm n items W n σ H s) {E : Value → Shared → Prop} {Q : Option Value → Shared → Prop} (hQ : ∀ s4, Inv X pins σ H s4 → Q none s4) :
    wpAny (model X.prog X.w) X.A (pyNext (.ref a)) Q E s := by
  have I := St.inv
  obtain ⟨gs, hgs, hgo⟩ := St.goes
  rw [Nat.sub_self] at hgo
  refine next_genG (A := X.A) (I.ok.hd hc) I.nolimit hd St.gen hgs hgo (fun v s₁ gs' _ hv => ?_) (fun s₁ hp h' hk => ?_) fun e s₁ he => (show False from he).elim
  · obtain ⟨_, _, _, _, _, _, _, _, _, _, _, _, haw, hk⟩ := hv
    exact (hk s₁ haw).1.elim
  · obtain ⟨_, Hg, Pa⟩ := hp
    exact hQ _ (Pa.inv (H' := H) I rfl rfl hX0 hXl hXc hXp (wsh n σ H (Nat.le_refl _) St.w) (fun b hb => (St.ks b hb).1) St.nL (fun b hb => (St.ks b hb).2.1) (fun _ => .inl rfl) rfl (allBare_setGen Pa.bare rfl) hk)
/-- what is pinned while the turn's body runs -/
def fpG (nm : List Str) (L a : Addr) (h : Heap) : List Addr := L :: a :: (ownK nm L h).filter fun b => decide (L < b)
theorem asleep_of {M : Model} {A : Around} {R : GenEnd} {Y : Protocol} {m : Nat} {gs : GenState} {s : Shared} (h : gs.Goes M A R Y m (.send (.bool false)) s) : asleep gs = true := by
  cases gs with
  | fresh c => obtain ⟨z, _⟩ := h; cases z
  | suspended => rfl
  | running => exact h.elim
  | finished => exact h.elim
theorem stand_turn (hx : ∀ u s, ¬ X.xe u s) (hc : X.calm = true) (hd : X.A.depth < recursionLimit) (hX0 : X.s_0.heap.objs.size ≤ L) (hXl : X.env.locals < L) (hXc : ∀ x c, X.env.cells.lookup x = some c → c < L) (hXp : ∀ p ∈ X.pn ++ pins, p.1 < L) (hLa : L < a)
    (htg : PG X tg tgg) (hbd : PSs X body tb) (wsh : ∀ i σ' H', i ≤ n → W i σ' H' → ∀ p ∈ sh, H' p.1 = some (.lst p.2))
    (wt : ∀ i σ' H', i < n → W i σ' H' → ∀ r, H' r = none → tgg (.ref r) σ' (upd H' r (.tup (items i))) fun σ2 H2 => tb { D with nx := W (i + 1), ct := W (i + 1), bk := D.nx } σ2 H2)
    (hi : i < n) (St : Stand X pins L a g sh nm n items W i σ H s) {E : Value → Shared → Prop} {Q : Option Value → Shared → Prop}
    (hQ : ∀ v s4, wpAny (model X.prog X.w) X.A (letOwnedTupleGo tg (.ref a) v) (fun _ s5 => wpAny (model X.prog X.w) X.A (assign tg X.env v) (fun _ s6 => wpAny (model X.prog X.w) X.A (execs body X.env) (fun f s7 => match f with
      | .next | .cont => ∃ σ' H', Stand X pins L a g sh nm n items W (i + 1) σ' H' s7
      | .brk => ∃ σ' H', Inv X pins σ' H' s7 ∧ D.nx σ' H'
      | .ret u => ∃ v σ' H', Inv X pins σ' H' s7 ∧ RelV v u ∧ D.rt v H') (fun _ _ => False) s6) (fun _ _ => False) s5) (fun _ _ => False) s4 → Q (some v) s4) :
    wpAny (model X.prog X.w) X.A (pyNext (.ref a)) Q E s := by
  have I := St.inv
  obtain ⟨gs, hgs, hgo⟩ := St.goes
  obtain ⟨m, hm⟩ : ∃ m, n - i = m + 1 := ⟨n - i - 1, by omega⟩
  rw [hm] at hgo
  have hgl : g + 1 ≤ s.gens.size := (Array.getElem?_eq_some_iff.mp hgs).1
  refine wpAny_gsz (n := g + 1) hgl (next_genG (A := X.A) (I.ok.hd hc) I.nolimit hd St.gen hgs hgo (fun v s₁ gs' hbare hv => ?_) (fun s₁ hp h' hk => ?_) fun e s₁ he => (show False from he).elim)
  · intro hsz
    obtain ⟨i', Hg, r, hi', rfl, hr, Pa, q1, q2, q3, q4, q5, haw, hk⟩ := hv
    obtain rfl : i' = i := by omega
    have hsl := asleep_of (hk s₁ haw).2
    have hsz1 : g < s₁.gens.size := by
      have q : (s₁.setGen g gs').gens.size = s₁.gens.size := setGen_size _ _ _
      omega
    have rsk : r ∉ startK nm L sh i' (s.setGen g .running).heap := fun z => by
      obtain ⟨xs, q⟩ := q4 r z
      rw [hr] at q; cases q
    have rnone : s.heap.get? r = none := Pa.new r _ hr rsk
    have hrn : H r = none := by
      cases q : H r with
      | none => rfl
      | some o =>
        obtain ⟨ob, z⟩ := objok_ex (I.hok r o q)
        rw [rnone] at z; cases z
    have rL : r ≠ L := fun z => by rw [z, Pa.loc] at hr; cases hr
    have aok : s₁.heap.IsGen a g := by
      obtain ⟨o, nm', qn, ho, rest⟩ := St.gen
      exact ⟨o, nm', qn, Pa.young a o hLa (fun z => (St.ks a z).2.2 rfl) ho, rest⟩
    have I4 : Inv X pins σ (upd H r (.tup (items i'))) (s₁.setGen g gs') := Pa.inv I rfl rfl hX0 hXl hXc hXp (wsh i' σ H (Nat.le_of_lt hi) St.w) (fun b hb => (St.ks b hb).1) St.nL (fun b hb => (St.ks b hb).2.1)
      (fun b => by
        by_cases z : b = r
        · subst z; exact .inr ⟨hrn, rnone, _, upd_same, hr⟩
        · exact .inl (upd_ne z)) rfl (allBare_setGen Pa.bare hbare) fun _ _ q => q
    obtain ⟨go, gnm, gqn, hgo', hgc, hgd, hgs'⟩ := id aok
    have ra : r ≠ a := fun z => by
      obtain ⟨o, _, _, ho, _⟩ := St.gen
      rw [z, ho] at rnone; cases rnone
    -- its own lists
    have own : ∀ b ∈ ownK nm L s₁.heap, L < b → (upd H r (.tup (items i'))) b = none ∧ b ≠ a := fun b hb hlt => by
      obtain ⟨xs, hl⟩ := q3 b hb
      have hbr : b ≠ r := fun z => by rw [z, hr] at hl; cases hl
      refine ⟨?_, fun z => ?_⟩
      · rw [upd_ne hbr]
        by_cases hs : b ∈ startK nm L sh i' (s.setGen g .running).heap
        · exact (St.ks b hs).2.1 hlt
        · have hn := Pa.fresh b xs hl hlt hs
          cases q : H b with
          | none => rfl
          | some o =>
            obtain ⟨ob, z⟩ := objok_ex (I.hok b o q)
            have hn : s.heap.get? b = none := hn
            rw [hn] at z; cases z
      · obtain ⟨_, its, nn, _, ql⟩ := Pa.hok b _ hl
        rw [z, hgo'] at ql
        cases ql
        have hgc : Value.type "list" = Value.type "generator" := hgc
        exact absurd hgc (by decide)
    have hfp : ∀ b ∈ fpG nm L a s₁.heap, FpOk X pins (upd H r (.tup (items i'))) b := fun b hb => by
      have hb' : L ≤ b ∧ (upd H r (.tup (items i'))) b = none := by
        rcases List.mem_cons.mp hb with z | z
        · subst z; exact ⟨Nat.le_refl _, by rw [upd_ne (Ne.symm rL)]; exact St.nL⟩
        · rcases List.mem_cons.mp z with z | z
          · subst z; exact ⟨Nat.le_of_lt hLa, by rw [upd_ne (Ne.symm ra)]; exact St.na⟩
          · obtain ⟨z1, z2⟩ := List.mem_filter.mp z
            exact ⟨Nat.le_of_lt (of_decide_eq_true z2), (own b z1 (of_decide_eq_true z2)).1⟩
      obtain ⟨hle, hn⟩ := hb'
      refine ⟨hn, fun z => Nat.lt_irrefl _ (Nat.lt_of_lt_of_le (z ▸ hXl) hle), fun z => ?_, .inr (Nat.le_trans hX0 hle), fun x c e z => Nat.lt_irrefl _ (Nat.lt_of_lt_of_le (z ▸ hXc x c e) hle), fun p hp z => Nat.lt_irrefl _ (Nat.lt_of_lt_of_le (z ▸ hXp p hp) hle)⟩
      obtain ⟨_, o, ho, _⟩ := I.ok.funs.mem z
      exact Nat.lt_irrefl _ (Nat.lt_of_lt_of_le (Nat.lt_of_lt_of_le (Heap.lt_size ho) hX0) hle)
    have hfo : ∀ b ∈ fpG nm L a s₁.heap, ∃ o, s₁.heap.get? b = some o ∧ ∀ v, o.data ≠ .cell v := fun b hb => by
      rcases List.mem_cons.mp hb with z | z
      · exact q5 b (.inl z)
      · rcases List.mem_cons.mp z with z | z
        · subst z; exact ⟨go, hgo', fun v q => by rw [hgd] at q; cases q⟩
        · obtain ⟨z1, z2⟩ := List.mem_filter.mp z
          exact q5 b (.inr ⟨z1, of_decide_eq_true z2⟩)
    have I5 := I4.pinned hfp hfo
    have hg4 : (s₁.setGen g gs').gens[g]? = some gs' := setGen_at hsz1
    refine hQ _ _ (go_of (s := s₁.setGen g gs') hgo' hgc hgd (by decide) ?_)
    have h1 := wpAny_wk (htg.run _ _ σ _ (.ref r) (.ref r) _ (Inv.gens I5 (bare_numb I5.bare)) rfl (wt i' σ H hi St.w r hrn))
    refine wpAny_mono h1 (fun _ s6 ⟨z, ez, N, σ6, H6, I6, q6⟩ => ?_) fun e s6 ⟨z, _, _, hz⟩ => (hx _ _ hz).elim
    have I6' : Inv X (pins ++ pinsAt (fpG nm L a s₁.heap) s₁.heap) σ6 H6 s6 := by rw [ez]; exact Inv.gens I6 (bare_wake I5.bare I6.bare)
    have hg6 : s6.gens[g]? = some gs' := by rw [ez]; exact wk_kept N hg4 hsl
    have h2 := wpAny_wk (hbd.run _ _ σ6 H6 _ (Inv.gens I6' (bare_numb I6'.bare)) q6)
    refine wpAny_mono h2 (fun f s7 ⟨z, ez, N, q7⟩ => ?_) fun e s7 ⟨z, _, _, hz⟩ => (hx _ _ hz).elim
    have hg7 : s7.gens[g]? = some gs' := by rw [ez]; exact wk_kept N hg6 hsl
    have back : ∀ {σ7 : L2.St} {H7 : Hp}, Inv X (pins ++ pinsAt (fpG nm L a s₁.heap) s₁.heap) σ7 H7 z → Inv X (pins ++ pinsAt (fpG nm L a s₁.heap) s₁.heap) σ7 H7 s7 := fun {σ7 H7} I7 => by rw [ez]; exact Inv.gens I7 (bare_wake I6'.bare I7.bare)
    have again : ∀ {σ7 : L2.St} {H7 : Hp}, Inv X (pins ++ pinsAt (fpG nm L a s₁.heap) s₁.heap) σ7 H7 z → W (i' + 1) σ7 H7 → ∃ σ' H', Stand X pins L a g sh nm n items W (i' + 1) σ' H' s7 := fun {σ7 H7} I7 w7 => by
      have I7 := back I7
      have kept : ∀ b ∈ fpG nm L a s₁.heap, s7.heap.get? b = s₁.heap.get? b ∧ H7 b = none := fun b hb => by
        obtain ⟨o, eo, _⟩ := hfo b hb
        have := I7.pin (b, o) (List.mem_append_right _ (List.mem_append_right _ (mem_pinsAt hb eo)))
        exact ⟨this.1.trans eo.symm, this.2.1⟩
      have kL := kept L List.mem_cons_self
      have ka := kept a (List.mem_cons_of_mem _ List.mem_cons_self)
      have ke : ownK nm L s7.heap = ownK nm L s₁.heap := ownK_same kL.1
      have kf : ∀ b ∈ ownK nm L s₁.heap, L < b → b ∈ fpG nm L a s₁.heap := fun b h1 h2 => List.mem_cons_of_mem _ (List.mem_cons_of_mem _ (List.mem_filter.mpr ⟨h1, decide_eq_true h2⟩))
      have w7s := wsh (i' + 1) σ7 H7 hi w7
      refine ⟨σ7, H7, I7.unpinned, w7, ⟨go, gnm, gqn, ka.1.trans hgo', hgc, hgd, hgs'⟩, ⟨gs', hg7, ?_⟩, kL.2, ka.2, fun b hb => ?_⟩
      · have ew : n - (i' + 1) = m := by omega
        rw [ew]
        refine (hk (s7.setGen g .running) (awk_of (s := s₁) I7 (fun b hb o eo => ?_) w7s)).1
        rcases hb with z | ⟨z1, z2⟩
        · subst z; exact kL.1.trans eo
        · exact (kept b (kf b z1 z2)).1.trans eo
      · have hb : b ∈ ownK nm L s₁.heap := by rw [← ke]; exact hb
        refine ⟨fun hlt => q2 b hb hlt, fun hlt => (kept b (kf b hb hlt)).2, fun z => ?_⟩
        exact (own b hb (z ▸ hLa)).2 z
    cases f with
    | next => obtain ⟨σ7, H7, I7, n7⟩ := q7; exact again I7 n7
    | cont => obtain ⟨σ7, H7, I7, n7⟩ := q7; exact again I7 n7
    | brk => obtain ⟨σ7, H7, I7, q7⟩ := q7; exact ⟨σ7, H7, (back I7).unpinned, q7⟩
    | ret v => obtain ⟨x7, σ7, H7, I7, r7, q7⟩ := q7; exact ⟨x7, σ7, H7, (back I7).unpinned, r7, q7⟩
  · obtain ⟨z, _⟩ := hp
    cases z
end
end Br

namespace Br
open PySem PySem.Spec PyProof.Rows L2 GenW
/-- THE RULE: for tg in f(..): body, f a generator def; within a block that raises nothing -/
theorem ps_forG {X : Cx} {k : Nat} {f : Addr} {ps : List Str} {spec : SpG4} {x : Str} {p cpos pos : Pos} {e1 : Expr} {es : List Expr} {t : TA} {tg : Expr} {body : List Stmt} {tgg : TG} {tb : TS} (G : GenFn X.prog X.w X.K X.mg X.base k f ps spec) (hr : Room (k + 3) X.A) (hg : Gl X x) (hm : X.mg x = some (.ref f)) (hk : PySem.W.keepIn X.K (.ref f) = true) (hb : Binds X.K G.fd ps [])
    (hx : ∀ u s, ¬ X.xe u s) (hc : X.calm = true) (ha : PA X (e1 :: es) t) (htg : PG X tg tgg) (hbd : PSs X body tb) (hdb : (x == ("__debug__" : Str)) = false := by decide) (he : starEach (e1 :: es) X.env = (false, eval e1 X.env) :: starEach es X.env := by rfl) (hpl : (backTo cpos (starEach es X.env)).any (·.1) = false := by rfl) (hfs : ∀ v, foldedSetIterable (.Call (.Name x p) (e1 :: es) [] cpos) X.env v = pure v := by intro _; rfl) :
    PS X (.For tg (.Call (.Name x p) (e1 :: es) [] cpos) body [] pos) (tForG spec t tgg tb) := by
  refine ⟨fun pins s σ H D I h => ?_⟩
  refine wpAny_For ?_ hfs
  refine wpAny_Call_Name_kw (ld_glob I hg hm ?_ hdb)
  refine PySem.W.callWith_K (h₀ := X.base) I.ok.mod.kin hk (thn (ha.run cpos pins s σ H _ I h) fun us s1 ⟨vs, H1, I1, rv, q⟩ => ⟨I1.kIn, ?_⟩) he hpl
  obtain ⟨sh, n, items, hsp, hsh, W, w0, wsh, wt, wd⟩ := q
  have hl := G.len _ _ _ _ _ hsp
  have hn := G.pos _ _ _ _ _ hsp
  have S := G.S
  have e0 := I1.env0
  have KX := I1.kIn
  refine wpAny_call ?_
  have hlk := KX _ _ G.lk
  have hbt : BindsTo s1 G.fd ⟨us, []⟩ (ps.zip us) := by
    have := hb s1 us KX (by rw [List.append_nil, ← rv.length]; exact hl)
    rwa [List.append_nil] at this
  have hkind : ∀ y ∈ ps.zip us, G.scope.names.lookup y.1 = some .local ∨ (G.scope.names.lookup y.1 = some .cell ∧ ((cellsFrom (s1.heap.objs.size + 1) G.scope.names []).lookup y.1).isSome = true) := fun ⟨z, v⟩ hy => by
    rcases S.par z (List.of_mem_zip hy).1 with q | q
    · exact .inl q
    · exact .inr ⟨q, PySem.W.cellsFrom_some _ _ _ (.inl q)⟩
  have hdp : X.A.depth < recursionLimit := by have := hr.dp; omega
  refine codeAny_call_generator hdp hlk (fd := G.fd) rfl S.co S.gen rfl (PySem.W.codeRec_of KX G.hcd) (hbt _ _ _ _ ?_)
  refine wpAny_newFunctionEnv_cells S.kind hkind fun env henv s2 y => ?_
  subst henv
  have kp2 : ∀ b o, s1.heap.get? b = some o → s2.heap.get? b = some o := y.toInCall.keep
  have lt2 : s1.heap.objs.size < s2.heap.objs.size := y.toInCall.ns.lt
  obtain ⟨h2', tk2, es2, _⟩ := y.done
  have os2 : s2.os = s1.os := by rw [es2]
  have gn2 : s2.gens = s1.gens := by rw [es2]
  have lim1 : s1.heap.NoLimit := I1.nolimit
  have lim2 : s2.heap.NoLimit := lim1.keeps kp2
  refine ⟨lim2, ?_⟩
  have hX0 : X.s_0.heap.objs.size ≤ s1.heap.objs.size := I1.sz
  have hXl : X.env.locals < s1.heap.objs.size := I1.lt
  have hXc : ∀ x c, X.env.cells.lookup x = some c → c < s1.heap.objs.size := fun x c e => by
    obtain ⟨v, o, ho, _⟩ := I1.cell x c e
    exact Heap.lt_size ho
  have hXp : ∀ p ∈ X.pn ++ pins, p.1 < s1.heap.objs.size := fun p hp => Heap.lt_size (I1.pin p hp).1
  have main : ∀ (go : Obj) (nm' qn : Value) (tk : Nat), go.cls = .type "generator" → go.data = .fields #[.int s2.gens.size 0, nm', qn] → go.slots = #[] → (∀ h : Heap, (h.push go).get? h.objs.size = some go) →
      wpAny (model X.prog X.w) X.A (pyIter (.ref s2.heap.objs.size)) (fun it s₂ => codeAny (model X.prog X.w) X.A (.forLoop tg it body [] X.env) (fun r s' => match r with | .ok f => SP X pins D f s' | .error e => cameBackBy (model X.prog X.w) X.A X.env X.xe e s') s₂) X.xe
        { s2 with gens := s2.gens.push (.fresh (.func (G.pre ++ [.While G.test (.Expr (.Yield (some G.e) G.yp) G.epos :: G.post) [] G.wpos]) (envOfC G.qual G.scope s1.heap.objs.size f G.cdv))), toks := tk, heap := s2.heap.push go } := by
    intro go nm' qn tk hgc hgd hgs hgp
    have hpushed : (s2.heap.push go).get? s2.heap.objs.size = some go := hgp _
    have kp23 : ∀ b o, s2.heap.get? b = some o → (s2.heap.push go).get? b = some o := fun b o e => Heap.get?_push_of_some _ e
    have kp3 : ∀ b o, s1.heap.get? b = some o → (s2.heap.push go).get? b = some o := fun b o e => kp23 b o (kp2 b o e)
    have hgen : (s2.heap.push go).IsGen s2.heap.objs.size s2.gens.size := ⟨go, nm', qn, hpushed, hgc, hgd, hgs⟩
    have hrw : Room (k + 2) X.A.in1 := Room.in1 hr
    have e0w : Env0 X.prog X.w X.K X.mg X.base X.A.in1 X.stack s1 H1 := ⟨e0.frames, e0.mod, e0.bs, e0.bsz, e0.funs, e0.frf, e0.hok, e0.bare⟩
    have Ig0 := inv_startG (E := fun _ _ _ => True) (cd := G.cdv) (f := f) (qual := G.qual) S hrw.hd e0w hl rv y
    have Ig : Inv (gcx X.prog X.w X.K X.mg X.base (X.A.in1.deeper (envOfC G.qual G.scope s1.heap.objs.size f G.cdv)) G.N X.stack (envOfC G.qual G.scope s1.heap.objs.size f G.cdv) s1 H1) [] (start G.N vs) H1 s2 :=
      ⟨⟨Ig0.ok.mod, Ig0.ok.kind, Ig0.ok.glob, Ig0.ok.blt, Ig0.ok.above, Ig0.ok.inj, Ig0.ok.has, Ig0.ok.cab, Ig0.ok.hd, Ig0.ok.frames, Ig0.ok.stk, Ig0.ok.exf, Ig0.ok.bs, Ig0.ok.bsz, Ig0.ok.noex, Ig0.ok.exfs, Ig0.ok.funs, Ig0.ok.frf⟩, Ig0.os, Ig0.bare, Ig0.base, Ig0.loc, Ig0.cell, Ig0.free, Ig0.freeC, Ig0.pin, Ig0.hok, Ig0.len⟩
    have hcell : ∀ z, (envOfC G.qual G.scope s1.heap.objs.size f G.cdv).cells.lookup z = none := fun z => G.noc _ z
    have bare3 : AllBare (s2.gens.push (.fresh (.func (G.pre ++ [.While G.test (.Expr (.Yield (some G.e) G.yp) G.epos :: G.post) [] G.wpos]) (envOfC G.qual G.scope s1.heap.objs.size f G.cdv)))) := AllBare.push (by rw [gn2]; exact I1.bare) rfl
    have I3 : Inv X pins σ H1 { s2 with gens := s2.gens.push (.fresh (.func (G.pre ++ [.While G.test (.Expr (.Yield (some G.e) G.yp) G.epos :: G.post) [] G.wpos]) (envOfC G.qual G.scope s1.heap.objs.size f G.cdv))), toks := tk, heap := s2.heap.push go } :=
      I1.call' (ch := []) os2 (Un.kept kp3) (I1.hok.kept kp3) bare3 fun b z => by simp at z
    have shlt : ∀ p ∈ sh, p.1 < s1.heap.objs.size := fun p hp => I1.hok.lt (hsh p hp)
    have hks : ∀ b ∈ sh.map (·.1), b < s1.heap.objs.size ∧ ∃ xs, (b, xs) ∈ sh ∧ H1 b = some (.lst xs) := fun b hb => by
      obtain ⟨p, hp, rfl⟩ := List.mem_map.mp hb
      exact ⟨shlt p hp, p.2, hp, hsh p hp⟩
    have freshH : ∀ b, s1.heap.objs.size ≤ b → H1 b = none := fun b hb => I1.hok.fresh hb
    refine wpAny_pyIter_gen hgen ?_
    generalize hs3 : ({ s2 with gens := s2.gens.push (.fresh (.func (G.pre ++ [.While G.test (.Expr (.Yield (some G.e) G.yp) G.epos :: G.post) [] G.wpos]) (envOfC G.qual G.scope s1.heap.objs.size f G.cdv))), toks := tk, heap := s2.heap.push go } : Shared) = s3 at I3
    have e3h : s3.heap = s2.heap.push go := by rw [← hs3]
    have e3g : s3.gens[s2.gens.size]? = some (.fresh (.func (G.pre ++ [.While G.test (.Expr (.Yield (some G.e) G.yp) G.epos :: G.post) [] G.wpos]) (envOfC G.qual G.scope s1.heap.objs.size f G.cdv))) := by rw [← hs3]; exact Array.getElem?_push_size ..
    have stand0 : Stand X pins s1.heap.objs.size s2.heap.objs.size s2.gens.size sh G.nm n items W 0 σ H1 s3 := by
      refine ⟨I3, w0, by rw [e3h]; exact hgen, ⟨_, e3g, rfl, ?_⟩, freshH _ (Nat.le_refl _), freshH _ (Nat.le_of_lt lt2), fun b hb => ?_⟩
      · rw [Nat.sub_zero]
        obtain ⟨SP⟩ := G.body X.A.in1 X.stack s1.heap.objs.size vs H1 sh n items (Room.mono (hrw.deeper _) (Nat.le_succ _)) hsp
        have aw : Awk X.prog X.w X.base X.stack (envOfC G.qual G.scope s1.heap.objs.size f G.cdv).locals sh (sh.map (·.1)) s2 (s3.setGen s2.gens.size .running) :=
          awk_of I3 (fun b _ o eo => by rw [e3h]; exact kp23 b o eo) hsh
        have Iw := wake_inv Ig hcell (fun b hb => let ⟨_, xs, _, z⟩ := hks b hb; ⟨xs, z⟩) (fun b hb _ => let ⟨_, xs, z1, z2⟩ := hks b hb; ⟨xs, z1, z2⟩) aw
        refine seg_body SP (fun z hz => G.loc z hz) hcell S.co (G.inter _) ⟨⟨_, Iw, ExtK.refl, fun b o h1 h2 h3 => ?_, fun b h1 h2 => ?_⟩, Dead.refl⟩ (by show s1.heap.objs.size ≤ s3.heap.objs.size; rw [e3h, Heap.size_push]; omega) fun p hp => ?_
        · unfold wakeH
          rw [if_neg h2, if_pos h1, h3]
          rfl
        · unfold wakeH
          rw [if_neg h2, if_neg (Nat.lt_asymm h1)]
        · have hm : p.1 ∈ sh.map (·.1) := List.mem_map.mpr ⟨p, hp, rfl⟩
          unfold wakeH
          rw [if_pos hm]
          exact hsh p hp
      · obtain ⟨h1, xs, h2, _⟩ := hks b hb
        exact ⟨fun _ => ⟨xs, h2⟩, fun z => absurd z (Nat.lt_asymm h1), fun z => Nat.lt_irrefl _ (Nat.lt_trans (z ▸ h1) lt2)⟩
    refine codeAny_forLoop_any (fun m s' => ∃ i σ' H', i ≤ n ∧ m = n - i ∧ Stand X pins s1.heap.objs.size s2.heap.objs.size s2.gens.size sh G.nm n items W i σ' H' s') ?_ n ⟨0, σ, H1, Nat.zero_le _, rfl, stand0⟩
    rintro m s' ⟨i, σ', H', hi, rfl, St⟩
    by_cases hlt : i < n
    · refine stand_turn hx hc hdp hX0 hXl hXc hXp lt2 htg hbd wsh wt hlt St fun v s4 h4 => ?_
      refine wpAny_mono h4 (fun _ s5 h5 => wpAny_mono h5 (fun _ s6 h6 => wpAny_mono h6 (fun fl s7 h7 => ?_) fun _ _ z => z.elim) fun _ _ z => z.elim) fun _ _ z => z.elim
      cases fl with
      | next => obtain ⟨σ7, H7, S7⟩ := h7; exact ⟨n - (i + 1), by omega, i + 1, σ7, H7, hlt, rfl, S7⟩
      | cont => obtain ⟨σ7, H7, S7⟩ := h7; exact ⟨n - (i + 1), by omega, i + 1, σ7, H7, hlt, rfl, S7⟩
      | brk => exact h7
      | ret u => exact h7
    · obtain rfl : i = n := by omega
      exact stand_end hx hc hdp hX0 hXl hXc hXp wsh St fun s4 I4 => wpAny_execs_nil ⟨σ', H', I4, wd σ' H' St.w⟩
  exact main _ _ _ _ rfl rfl rfl fun h => Heap.get?_push_size _ rfl
/-! ### a generator def of the text -/
def gLoop (st : Stmt) : Stmt := (defBody st).getLastD (.Pass ⟨0, 0, 0, 0⟩)
def gPre (st : Stmt) : List Stmt := (defBody st).dropLast
def gTest (st : Stmt) : Expr := match gLoop st with
  | .While t _ _ _ => t
  | _ => .Name "" ⟨0, 0, 0, 0⟩
def gPost (st : Stmt) : List Stmt := match gLoop st with
  | .While _ (_ :: b) _ _ => b
  | _ => []
def gGives (st : Stmt) : Expr := match gLoop st with
  | .While _ (.Expr (.Yield (some e) _) _ :: _) _ _ => e
  | _ => .Name "" ⟨0, 0, 0, 0⟩
def gYp (st : Stmt) : Pos := match gLoop st with
  | .While _ (.Expr (.Yield _ p) _ :: _) _ _ => p
  | _ => ⟨0, 0, 0, 0⟩
def gEp (st : Stmt) : Pos := match gLoop st with
  | .While _ (.Expr _ p :: _) _ _ => p
  | _ => ⟨0, 0, 0, 0⟩
def gWp (st : Stmt) : Pos := match gLoop st with
  | .While _ _ _ p => p
  | _ => ⟨0, 0, 0, 0⟩
/-- a generator def's promise -/
def GenOk (P : Program) (w : World) (K : PySem.W.Frag) (mg : Str → Option Value) (base : Heap) (k : Nat) (f : Addr) (fd : FuncData) (ps : List Str) (spec : SpG4) : Prop := ∃ G : GenFn P w K mg base k f ps spec, G.fd = fd
theorem gen_ok {P : Program} {w : World} {K : PySem.W.Frag} {mg : Str → Option Value} {base : Heap} {x qual : Str} {st : Stmt} {f : Addr} {fd : FuncData} {N ps : List Str} {k : Nat} {spec : SpG4} (F : Fun K x qual st f fd) (S : GScope N ps (defScope st)) (nm : List Str)
    (hb : defBody st = gPre st ++ [.While (gTest st) (.Expr (.Yield (some (gGives st)) (gYp st)) (gEp st) :: gPost st) [] (gWp st)]) (loc : ∀ x ∈ nm, (defScope st).names.lookup x = some .local) (noc : ∀ n x, (cellsFrom n (defScope st).names []).lookup x = none)
    (inter : ∀ L cdv, interactive (envOfC qual (defScope st) L f cdv) = false) (len : ∀ vs H sh n items, spec vs H sh n items → vs.length = ps.length) (pos : ∀ vs H sh n items, spec vs H sh n items → 0 < n)
    (body : ∀ (cdv : Value) (A : Around) (outer : List Env) (L : Addr) vs H sh n items, Room k (A.deeper (envOfC qual (defScope st) L f cdv)) → spec vs H sh n items →
      Nonempty (GenSpec (gcx P w K mg base (A.deeper (envOfC qual (defScope st) L f cdv)) N outer (envOfC qual (defScope st) L f cdv)) L (gPre st) (gPost st) (gTest st) (gGives st) sh nm N n items (start N vs))) : GenOk P w K mg base k f fd ps spec := by
  obtain ⟨oc, od, kV, doc, pm, an, cdv, ct, osl, rfl, lk, hcd⟩ := F.ex
  refine ⟨⟨x, qual, defArgs st, gPre st, gPost st, gTest st, gGives st, gYp st, gEp st, gWp st, defScope st, .none, kV, doc, pm, cdv, ct, oc, an, od, osl, N, nm, ?_, hcd, S, loc, noc, fun L => inter L cdv, len, pos, body cdv⟩, ?_⟩
  · rw [← hb]; exact lk
  · show PySem.W.fnOf x qual (defArgs st) (gPre st ++ [.While (gTest st) (.Expr (.Yield (some (gGives st)) (gYp st)) (gEp st) :: gPost st) [] (gWp st)]) (defScope st) .none kV doc pm an cdv ct = _
    rw [← hb]
theorem ps_forGn {X : Cx} {k : Nat} {f : Addr} {fd : FuncData} {ps : List Str} {spec : SpG4} {x : Str} {p cpos pos : Pos} {e1 : Expr} {es : List Expr} {t : TA} {tg : Expr} {body : List Stmt} {tgg : TG} {tb : TS} (G : GenOk X.prog X.w X.K X.mg X.base k f fd ps spec) (hr : Room (k + 3) X.A) (hg : Gl X x) (hm : X.mg x = some (.ref f)) (hk : PySem.W.keepIn X.K (.ref f) = true) (hb : Binds X.K fd ps [])
    (hx : ∀ u s, ¬ X.xe u s) (hc : X.calm = true) (ha : PA X (e1 :: es) t) (htg : PG X tg tgg) (hbd : PSs X body tb) (hdb : (x == ("__debug__" : Str)) = false := by decide) (he : starEach (e1 :: es) X.env = (false, eval e1 X.env) :: starEach es X.env := by rfl) (hpl : (backTo cpos (starEach es X.env)).any (·.1) = false := by rfl) (hfs : ∀ v, foldedSetIterable (.Call (.Name x p) (e1 :: es) [] cpos) X.env v = pure v := by intro _; rfl) :
    PS X (.For tg (.Call (.Name x p) (e1 :: es) [] cpos) body [] pos) (tForG spec t tgg tb) := by
  obtain ⟨G, e⟩ := G
  subst e
  exact ps_forG G hr hg hm hk hb hx hc ha htg hbd hdb he hpl hfs
end Br

namespace Br
open PySem PySem.Spec PyProof.Rows L2
/-- xs[k], k from nought on, as the read of an augmented assignment -/
def rGetL (K : PySem.W.Frag) : V → V → Hp → VK → Prop := fun o i H Q => ∃ (p : Addr) (xs : List V) (k : Nat) (v : V), o = .ref p ∧ i = .int (k : Int) ∧ SqL K H p xs ∧ xs[k]? = some v ∧ Q v H
theorem get_list {X : Cx} : PGet X (rGetL X.K) := by
  intro pins s σ H o i ov iv Q I ro ri h
  obtain ⟨p, xs, k, z, rfl, rfl, hq, he, q⟩ := h
  cases ro
  obtain ⟨t, rfl⟩ := ri
  obtain ⟨its, r, pl, hz⟩ := I.list hq
  obtain ⟨w, ew, rw'⟩ := r.get he
  have hl := r.length
  have hn := line63
  have hk : k < its.length := (List.getElem?_eq_some_iff.mp ew).1
  exact wpAny_getItem_list pl.isList (by omega) (by omega) (by rw [Int.toNat_natCast]; simpa using ew) ⟨z, H, I, rw', q⟩
theorem x_augS {σ : L2.St} {H : Hp} {D : Ends} {to ti te : TE} {tget : V → V → Hp → VK → Prop} {tip : TIp} {tset : TSet} (h : to σ H fun o H1 => ti σ H1 fun i H2 => tget o i H2 fun x H3 => te σ H3 fun y H4 => tip x y H4 fun z H5 => tset o i z H5 fun H6 => D.nx σ H6) : tAugS to ti te tget tip tset D σ H := h
end Br

namespace Br
/-! ### grids: the points with numbers below given sizes, in their order -/
def prodL : List Nat → Nat
  | [] => 1
  | s :: ss => s * prodL ss
/-- the i-th point -/
def dg : List Nat → Nat → List Nat
  | [], _ => []
  | s :: ss, i => i / prodL ss % s :: dg ss i
theorem dg_len : ∀ {ss : List Nat} {i : Nat}, (dg ss i).length = ss.length
  | [], _ => rfl
  | _ :: ss, i => congrArg (· + 1) (dg_len (ss := ss) (i := i))
theorem dg_get : ∀ {ss : List Nat} {k s i : Nat}, ss[k]? = some s → (dg ss i)[k]? = some (i / prodL (ss.drop (k + 1)) % s)
  | [], k, s, i, h => by simp at h
  | a :: ss, 0, s, i, h => by cases h; rfl
  | a :: ss, k + 1, s, i, h => dg_get (ss := ss) (k := k) (by simpa using h)
theorem prodL_pos : ∀ {ss : List Nat}, (∀ s ∈ ss, 0 < s) → 0 < prodL ss
  | [], _ => Nat.one_pos
  | s :: ss, h => Nat.mul_pos (h s List.mem_cons_self) (prodL_pos fun x hx => h x (List.mem_cons_of_mem _ hx))
theorem dg_lt : ∀ {ss : List Nat} {i k d s : Nat}, (∀ s ∈ ss, 0 < s) → (dg ss i)[k]? = some d → ss[k]? = some s → d < s := fun {ss i k d s} hp h1 h2 => by
  rw [dg_get h2] at h1
  cases h1
  exact Nat.mod_lt _ (hp s (List.mem_of_getElem? h2))
theorem div_up {i P : Nat} (hP : 0 < P) (h : (i + 1) % P = 0) : (i + 1) / P = i / P + 1 := by
  have e := Nat.div_add_mod (i + 1) P
  rw [h, Nat.add_zero] at e
  generalize (i + 1) / P = q at e
  cases q with
  | zero => rw [Nat.mul_zero] at e; omega
  | succ q =>
    have e2 : P * q + P = i + 1 := by rw [← e, Nat.mul_succ]
    have : i / P = q := by
      refine Nat.div_eq_of_lt_le ?_ ?_
      · rw [Nat.mul_comm]; omega
      · rw [Nat.mul_comm, Nat.mul_succ]; omega
    omega
theorem div_same {i P : Nat} (hP : 0 < P) (h : (i + 1) % P ≠ 0) : (i + 1) / P = i / P := by
  have e := Nat.div_add_mod i P
  have hm := Nat.mod_lt i hP
  generalize i / P = q at e
  generalize i % P = r at e hm
  have hr : r + 1 ≠ P := fun z => h (by
    have : i + 1 = P * (q + 1) := by rw [Nat.mul_succ]; omega
    rw [this]; exact Nat.mul_mod_right _ _)
  refine Nat.div_eq_of_lt_le ?_ ?_
  · rw [Nat.mul_comm]; omega
  · rw [Nat.mul_comm, Nat.mul_succ]; omega
theorem mod_prod {i P s : Nat} (h : (i + 1) % P = 0) : (i + 1) % (s * P) = P * ((i + 1) / P % s) := by
  rw [Nat.mul_comm, Nat.mod_mul, h, Nat.zero_add]
/-- on the way from the i-th point to the next: the places from j on are done -/
def mixd (ss : List Nat) (i j : Nat) : List Nat := (dg ss i).take j ++ (dg ss (i + 1)).drop j
theorem mixd_len {ss : List Nat} {i j : Nat} : (mixd ss i j).length = ss.length := by
  unfold mixd
  rw [List.length_append, List.length_take, List.length_drop, dg_len, dg_len]
  omega
theorem mixd_all {ss : List Nat} {i : Nat} : mixd ss i ss.length = dg ss i := by
  unfold mixd
  rw [List.take_of_length_le (by rw [dg_len]; exact Nat.le_refl _), List.drop_eq_nil_of_le (by rw [dg_len]; exact Nat.le_refl _), List.append_nil]
theorem mixd_zero {ss : List Nat} {i : Nat} : mixd ss i 0 = dg ss (i + 1) := rfl
theorem mixd_get {ss : List Nat} {i j s : Nat} (h : ss[j]? = some s) : (mixd ss i (j + 1))[j]? = some (i / prodL (ss.drop (j + 1)) % s) := by
  have hj : j < (dg ss i).length := by rw [dg_len]; exact (List.getElem?_eq_some_iff.mp h).1
  unfold mixd
  rw [List.getElem?_append_left (by rw [List.length_take]; omega), List.getElem?_take, if_pos (Nat.lt_succ_self j)]
  exact dg_get h
theorem mixd_set {ss : List Nat} {i j v : Nat} (h : (dg ss (i + 1))[j]? = some v) : (mixd ss i (j + 1)).set j v = mixd ss i j := by
  have hj : j < ss.length := by
    have := (List.getElem?_eq_some_iff.mp h).1
    rw [dg_len] at this; exact this
  refine List.ext_getElem? fun k => ?_
  unfold mixd
  by_cases hk : k = j
  · subst hk
    rw [List.getElem?_set_self (by rw [List.length_append, List.length_take, List.length_drop, dg_len, dg_len]; omega), List.getElem?_append_right (by rw [List.length_take, dg_len]; omega), List.length_take, dg_len, List.getElem?_drop, ← h]
    congr 1
    omega
  · rw [List.getElem?_set_ne (Ne.symm hk)]
    by_cases hlt : k < j
    · rw [List.getElem?_append_left (by rw [List.length_take, dg_len]; omega), List.getElem?_append_left (by rw [List.length_take, dg_len]; omega), List.getElem?_take, List.getElem?_take, if_pos (by omega), if_pos hlt]
    · rw [List.getElem?_append_right (by rw [List.length_take, dg_len]; omega), List.getElem?_append_right (by rw [List.length_take, dg_len]; omega), List.length_take, List.length_take, dg_len, List.getElem?_drop, List.getElem?_drop]
      congr 1
      omega
theorem drop_at {ss : List Nat} {j s : Nat} (h : ss[j]? = some s) : prodL (ss.drop j) = s * prodL (ss.drop (j + 1)) := by
  have hj := (List.getElem?_eq_some_iff.mp h).1
  have e : ss.drop j = s :: ss.drop (j + 1) := by
    rw [List.drop_eq_getElem_cons hj]
    congr 1
    exact (List.getElem?_eq_some_iff.mp h).2
  rw [e]; rfl
section
variable {ss : List Nat} {i j s : Nat}
/-- the place j stands at its last number: it starts again -/
theorem carry_on (hp : ∀ s ∈ ss, 0 < s) (h : ss[j]? = some s) (hc : (i + 1) % prodL (ss.drop (j + 1)) = 0) (hd : i / prodL (ss.drop (j + 1)) % s = s - 1) : (dg ss (i + 1))[j]? = some 0 ∧ (i + 1) % prodL (ss.drop j) = 0 := by
  have hs := hp s (List.mem_of_getElem? h)
  have hP : 0 < prodL (ss.drop (j + 1)) := prodL_pos fun x hx => hp x (List.mem_of_mem_drop hx)
  have e := div_up hP hc
  have e2 : (i + 1) / prodL (ss.drop (j + 1)) % s = 0 := by
    rw [e, Nat.add_mod, hd]
    by_cases h1 : s = 1
    · subst h1; simp [Nat.mod_one]
    · rw [Nat.mod_eq_of_lt (show 1 < s by omega), show s - 1 + 1 = s by omega, Nat.mod_self]
  refine ⟨?_, ?_⟩
  · rw [dg_get h, e2]
  · rw [drop_at h, mod_prod hc, e2, Nat.mul_zero]
/-- the place j goes one up -/
theorem carry_end (hp : ∀ s ∈ ss, 0 < s) (h : ss[j]? = some s) (hc : (i + 1) % prodL (ss.drop (j + 1)) = 0) (hd : i / prodL (ss.drop (j + 1)) % s ≠ s - 1) : (dg ss (i + 1))[j]? = some (i / prodL (ss.drop (j + 1)) % s + 1) ∧ (i + 1) % prodL (ss.drop j) ≠ 0 := by
  have hs := hp s (List.mem_of_getElem? h)
  have hP : 0 < prodL (ss.drop (j + 1)) := prodL_pos fun x hx => hp x (List.mem_of_mem_drop hx)
  have e := div_up hP hc
  have hlt := Nat.mod_lt (i / prodL (ss.drop (j + 1))) hs
  have e2 : (i + 1) / prodL (ss.drop (j + 1)) % s = i / prodL (ss.drop (j + 1)) % s + 1 := by
    rw [e, Nat.add_mod]
    by_cases h1 : s = 1
    · subst h1; omega
    · rw [Nat.mod_eq_of_lt (show 1 < s by omega), Nat.mod_eq_of_lt (by omega)]
  refine ⟨?_, ?_⟩
  · rw [dg_get h, e2]
  · rw [drop_at h, mod_prod hc, e2]
    exact Nat.mul_ne_zero (by omega) (by omega)
theorem mod_up {x P : Nat} : ∀ {k : Nat}, (x + 1) % prodL (ss.drop k) ≠ 0 → ∀ l, l ≤ k → (x + 1) % prodL (ss.drop l) ≠ 0 := by
  intro k hk l hl z
  apply hk
  have hd : ∀ (m : Nat) (ts : List Nat), prodL (ts.drop m) ∣ prodL ts := by
    intro m
    induction m with
    | zero => intro ts; exact Nat.dvd_refl _
    | succ m ih => intro ts; cases ts with
      | nil => exact Nat.dvd_refl _
      | cons t ts => exact Nat.dvd_trans (ih ts) (Nat.dvd_mul_left _ _)
  have h1 : prodL (ss.drop k) ∣ prodL (ss.drop l) := by
    have := hd (k - l) (ss.drop l)
    rwa [List.drop_drop, show l + (k - l) = k by omega] at this
  exact Nat.mod_eq_zero_of_dvd (Nat.dvd_trans h1 (Nat.dvd_of_mod_eq_zero z))
/-- ahead of a place that went up all stays -/
theorem mixd_done (hp : ∀ s ∈ ss, 0 < s) (hj : (i + 1) % prodL (ss.drop j) ≠ 0) : mixd ss i j = dg ss (i + 1) := by
  refine List.ext_getElem? fun k => ?_
  unfold mixd
  by_cases hk : k < j
  · by_cases hl : k < ss.length
    · have e : ss[k]? = some ss[k] := List.getElem?_eq_getElem hl
      rw [List.getElem?_append_left (by rw [List.length_take, dg_len]; omega), List.getElem?_take, if_pos hk, dg_get e, dg_get e, div_same (prodL_pos fun x hx => hp x (List.mem_of_mem_drop hx)) (mod_up (ss := ss) (P := 0) hj (k + 1) hk)]
    · rw [List.getElem?_eq_none (by rw [List.length_append, List.length_take, List.length_drop, dg_len, dg_len]; omega), List.getElem?_eq_none (by rw [dg_len]; omega)]
  · by_cases hl : j ≤ ss.length
    · rw [List.getElem?_append_right (by rw [List.length_take, dg_len]; omega), List.length_take, dg_len, List.getElem?_drop]
      congr 1
      omega
    · rw [List.getElem?_eq_none (by rw [List.length_append, List.length_take, List.length_drop, dg_len, dg_len]; omega), List.getElem?_eq_none (by rw [dg_len]; omega)]
end
theorem dg_zero : ∀ {ss : List Nat}, (∀ s ∈ ss, 0 < s) → dg ss 0 = List.replicate ss.length 0
  | [], _ => rfl
  | s :: ss, h => by
    show 0 / prodL ss % s :: dg ss 0 = _
    rw [Nat.zero_div, Nat.zero_mod, dg_zero fun x hx => h x (List.mem_cons_of_mem _ hx)]
    rfl
end Br

namespace Br
open PySem PySem.Spec PyProof.Rows L2
/-- any of a list of whole numbers -/
def rAnyI (K : PySem.W.Frag) : List V → Hp → VK → Prop := fun vs H Q => ∃ (a : Addr) (ns : List Int), vs = [V.ref a] ∧ SqL K H a (ns.map V.int) ∧ Q (.bl (ns.any fun n => decide (n ≠ 0))) H
theorem truth_wholes {prog : Program} {w : World} {A : Around} {ns : List Int} {its : List Value} (r : Vals (ns.map V.int) its) : TruthOf prog w A (fun i v => its.toArray[i]? = some v) (fun i => decide (ns.getD i 0 ≠ 0)) := fun i v s Q E hv hq => by
  have hv' : its[i]? = some v := by simpa using hv
  have hl := r.length
  rw [List.length_map] at hl
  have hi : i < ns.length := by rw [hl]; exact (List.getElem?_eq_some_iff.mp hv').1
  have e : ns[i]? = some ns[i] := List.getElem?_eq_getElem hi
  obtain ⟨u, hu, ru⟩ := r.get (i := i) (x := V.int ns[i]) (by rw [List.getElem?_map, e]; rfl)
  rw [hu] at hv'
  cases hv'
  obtain ⟨t, rfl⟩ := ru
  have hg : ns.getD i 0 = ns[i] := by rw [List.getD_eq_getElem?_getD, e]; rfl
  have hq' : Q (decide (ns.getD i 0 ≠ 0)) s := hq
  rw [hg] at hq'
  have eb : (ns[i] != 0) = decide (ns[i] ≠ 0) := by
    by_cases z : ns[i] = 0
    · simp [z]
    · simp [z]
  exact PyProof.Rows.truthy_int (by rw [eb]; exact hq')
theorem any_wholes : ∀ ns : List Int, (List.range ns.length).any (fun i => decide (ns.getD i 0 ≠ 0)) = ns.any fun n => decide (n ≠ 0)
  | [] => rfl
  | n :: ns => by
    rw [List.length_cons, List.range_succ_eq_map, List.any_cons, List.any_map, List.any_cons, ← any_wholes ns]
    all_goals rfl
theorem cr_anyI {X : Cx} (hc : X.calm = true) : CallR X (.builtin "any") (rAnyI X.K) := by
  intro pins s σ H vs us Q I r h
  obtain ⟨a, ns, rfl, hs, q⟩ := h
  obtain ⟨its, rv, hl, _⟩ := I.list hs
  rw [Vals.ref1 r]
  refine call_any_walk (iter_any hl.isList fun s₂ e2 st hne => ?_)
  subst e2
  refine ⟨_, _, _, _, _, _, _, rfl, Walks.list (A := X.A.in1) (I.ok.hd hc) _ a hne its.toArray, st, truth_wholes rv, fun h' tk hk => ?_⟩
  refine ⟨.bl _, H, I.kept fun b o eo => hk b o (fun hm => ?_) (Heap.get?_push_of_some _ eo), ?_, q⟩
  · rcases List.mem_cons.mp hm with e1 | hm
    · exact absurd (e1 ▸ Heap.lt_size eo) (Nat.lt_irrefl _)
    · cases hm
  · show Value.bool _ = Value.bool _
    have hl2 := rv.length
    rw [List.length_map] at hl2
    rw [← any_wholes, List.size_toArray, hl2]
end Br

namespace Br
open PySem PySem.Spec PyProof.Rows L2
/-- [.. for i, x in enumerate(list) if test] -/
theorem x_lcEnF {K : PySem.W.Frag} {ta : TA} {tt : TT} {te : TE} {vs : List Nat} {i j : Nat} {Q : VK} {σ : L2.St} {H : Hp} {a : Addr} {xs : List V} (b : Nat → Bool) (f : Nat → V) (hn : ∀ R : List V → Hp → Prop, R [.ref a] H → ta σ H R) (ha : SqL K H a xs) (hl : xs.length ≤ 100000)
    (hv : ∀ x y, wipe (((wipe σ vs).set i (some x)).set j (some y)) vs = wipe σ vs) (hG : ∀ H', Same H H' → SqL K H' a xs)
    (ht : ∀ (k : Nat) x H', Same H H' → xs[k]? = some x → ∀ R : Bool → Hp → Prop, (∀ H2, Same H' H2 → R (b k) H2) → tt (((wipe σ vs).set i (some (.int (k : Int)))).set j (some x)) H' R)
    (he : ∀ (k : Nat) x H', Same H H' → xs[k]? = some x → ∀ R : VK, (∀ H2, Same H' H2 → R (f k) H2) → te (((wipe σ vs).set i (some (.int (k : Int)))).set j (some x)) H' R)
    (hd : ∀ p H', H p = none → Same H H' → H' p = some (.lst (((List.range xs.length).filter b).map f)) → Q (.ref p) H') : tLc (iEnum K ta) (gTup K 2 (gCons (gName i) (gCons (gName j) gNil))) tt te vs σ H Q := by
  have hw : ∀ R : It → Hp → Prop, R (Ite K a) H → iEnum K ta σ H R := fun R r => by unfold iEnum; exact hn _ ⟨a, _, rfl, ha, r⟩
  refine hw _ fun p hp => ?_
  refine lc_it (walk_enum (xs := xs)) (Qd := fun H' => Q (.ref p) H') (fun k H' => Same H H' ∧ H' p = some (.lst (((List.range k).filter b).map f))) ⟨same_upd hp, upd_same⟩ (fun k H' _ z => hG H' z.1) (fun k x H' H2 hk q y => ?_) fun H' q => hd p H' hp q.1 q.2
  obtain ⟨hs, hp2⟩ := q
  obtain ⟨T, x1, y1, rfl, hT, rfl, gx, hx⟩ := y
  cases gx
  have sT := same_upd (o := .tup [.int (k : Nat), y1]) hT
  refine x_gTup2 (st_of upd_same) ⟨hv _ _, ?_⟩
  refine ht k y1 _ (hs.trans sT) hx _ fun H3 s3 => ?_
  have s03 := (hs.trans sT).trans s3
  have hp3 := s3 _ _ (sT _ _ hp2)
  have hlen : (((List.range k).filter b).map f).length ≤ k := by
    rw [List.length_map]
    exact Nat.le_trans (List.length_filter_le ..) (by rw [List.length_range]; exact Nat.le_refl _)
  by_cases hb : b k = true
  · rw [if_pos hb]
    refine he k y1 _ s03 hx _ fun H4 s4 => ?_
    refine ⟨_, s4 _ _ hp3, lt_line (Nat.lt_of_le_of_lt hlen (by omega)), sput (s03.trans s4) hp, ?_⟩
    rw [upd_same, List.range_succ, List.filter_append, List.map_append]
    congr 3
    rw [List.filter_cons, if_pos hb]
    rfl
  · rw [if_neg hb]
    refine ⟨s03, ?_⟩
    rw [hp3, List.range_succ, List.filter_append, List.filter_cons, if_neg hb, List.filter_nil, List.append_nil]
end Br

namespace Br
/-! ### the judge: points, witnesses -/
/-- whole numbers -/
abbrev zI (ns : List Nat) : List Int := ns.map fun n => ((n : Nat) : Int)
/-- the inputs and the memory of the j-th point -/
def givF (m c i j : Nat) : List Int := zI ((dg (List.replicate (i + c) m) j).take i)
def memF2 (m c j : Nat) : List Int := zI (dg (List.replicate c m) j)
def zeroF (c : Nat) : List Int := List.replicate c 0
def behF (m c i : Nat) (ss : List Stp) (j : Nat) : List Int := runF m (givF m c i j) ss (memF2 m c j)
/-- the cells but the target that are not as before -/
def spoF (m c i : Nat) (ss : List Stp) (t j : Nat) : List Nat := (List.range c).filter fun k => decide ((memF2 m c j).getD k 0 ≠ (behF m c i ss j).getD k 0 ∧ k ≠ t)
/-- what the target gained, and what it gains on a memory of noughts -/
def amtF (m c i : Nat) (ss : List Stp) (t j : Nat) : Int := ((behF m c i ss j).getD t 0 - (memF2 m c j).getD t 0) % m
def am0F (m c i : Nat) (ss : List Stp) (t j : Nat) : Int := ((runF m (givF m c i j) ss (zeroF c)).getD t 0 - 0) % m
def leakF (m c i : Nat) (ss : List Stp) (t j : Nat) : Bool := decide (amtF m c i ss t j ≠ am0F m c i ss t j)
inductive Wit where
  | no
  | sp (gs ms : List Int) (k : Nat)
  | lk (gs zs ms : List Int)
/-- the first leak among the first n points -/
def leakW (m c i : Nat) (ss : List Stp) (t n : Nat) : Wit := match (List.range n).find? (leakF m c i ss t) with
  | some j => .lk (givF m c i j) (zeroF c) (memF2 m c j)
  | none => .no
/-- the judge's word -/
def verdF (m c i : Nat) (ss : List Stp) (t : Nat) : Wit := match (List.range (m ^ (i + c))).find? (fun j => decide (spoF m c i ss t j ≠ [])) with
  | some j => .sp (givF m c i j) (memF2 m c j) ((spoF m c i ss t j).headD 0)
  | none => leakW m c i ss t (m ^ (i + c))
theorem prod_rep {m : Nat} : ∀ {k : Nat}, prodL (List.replicate k m) = m ^ k
  | 0 => rfl
  | k + 1 => by
    show m * prodL (List.replicate k m) = _
    rw [prod_rep, Nat.pow_succ, Nat.mul_comm]
theorem dg_drop : ∀ {ss : List Nat} {k j : Nat}, (dg ss j).drop k = dg (ss.drop k) j
  | [], k, j => by rw [List.drop_nil]; exact List.drop_nil
  | s :: ss, 0, j => rfl
  | s :: ss, k + 1, j => dg_drop (ss := ss)
/-- the memory is what stands behind the inputs -/
theorem mem_drop {m c i j : Nat} : zI ((dg (List.replicate (i + c) m) j).drop i) = memF2 m c j := by
  unfold memF2
  rw [dg_drop, List.drop_replicate, Nat.add_sub_cancel_left]
theorem mem_len {m c j : Nat} : (memF2 m c j).length = c := by
  unfold memF2
  rw [List.length_map, dg_len, List.length_replicate]
theorem giv_len {m c i j : Nat} : (givF m c i j).length = i := by
  unfold givF
  rw [List.length_map, List.length_take, dg_len, List.length_replicate]
  omega
theorem dg_rg {m k j : Nat} (hm : 0 < m) : ∀ d ∈ dg (List.replicate k m) j, d < m := fun d hd => by
  obtain ⟨l, hl, rfl⟩ := List.mem_iff_getElem.mp hd
  have hl2 : l < (List.replicate k m).length := by rw [dg_len] at hl; exact hl
  refine dg_lt (ss := List.replicate k m) (k := l) (fun s hs => by rw [List.eq_of_mem_replicate hs]; exact hm) (List.getElem?_eq_getElem hl) ?_
  rw [List.getElem?_eq_getElem hl2, List.getElem_replicate]
theorem zI_mem {m : Nat} {ns : List Nat} {k : Nat} (hk : ns.length = k) (h : ∀ d ∈ ns, d < m) : Mem m k (zI ns) := ⟨by rw [List.length_map]; exact hk, fun x hx => by
  obtain ⟨d, hd, rfl⟩ := List.mem_map.mp hx
  have := h d hd
  exact ⟨Int.natCast_nonneg d, by omega⟩⟩
theorem mem_mem {m c j : Nat} (hm : 0 < m) : Mem m c (memF2 m c j) := zI_mem (by rw [dg_len, List.length_replicate]) (dg_rg hm)
theorem giv_mem {m c i j : Nat} (hm : 0 < m) : Mem m i (givF m c i j) := zI_mem (by rw [List.length_take, dg_len, List.length_replicate]; omega) fun d hd => dg_rg hm d (List.mem_of_mem_take hd)
theorem zero_mem {m c : Nat} (hm : 0 < m) : Mem m c (zeroF c) := ⟨List.length_replicate .., fun x hx => by
  rw [List.eq_of_mem_replicate hx]
  exact ⟨Int.le_refl _, by omega⟩⟩
/-- digits of a multiple -/
theorem dg_mul {ss : List Nat} {j : Nat} (hp : ∀ s ∈ ss, 0 < s) (h : j % prodL ss = 0) : dg ss j = List.replicate ss.length 0 := by
  refine List.ext_getElem? fun k => ?_
  by_cases hk : k < ss.length
  · have e : ss[k]? = some ss[k] := List.getElem?_eq_getElem hk
    rw [dg_get e, List.getElem?_replicate, if_pos hk]
    congr 1
    have hd : prodL (ss.drop k) ∣ prodL ss := by
      have hmul : ∀ as bs : List Nat, prodL (as ++ bs) = prodL as * prodL bs := by
        intro as bs
        induction as with
        | nil => show prodL bs = 1 * prodL bs; rw [Nat.one_mul]
        | cons a as ih => show a * prodL (as ++ bs) = a * prodL as * prodL bs; rw [ih, Nat.mul_assoc]
      have e3 : prodL ss = prodL (ss.take k) * prodL (ss.drop k) := by rw [← hmul, List.take_append_drop]
      rw [e3]
      exact Nat.dvd_mul_left _ _
    rw [drop_at e] at hd
    have h2 : j % (ss[k] * prodL (ss.drop (k + 1))) = 0 := Nat.mod_eq_zero_of_dvd (Nat.dvd_trans hd (Nat.dvd_of_mod_eq_zero h))
    rw [Nat.mul_comm, Nat.mod_mul] at h2
    have hP : 0 < prodL (ss.drop (k + 1)) := prodL_pos fun x hx => hp x (List.mem_of_mem_drop hx)
    have h3 : prodL (ss.drop (k + 1)) * (j / prodL (ss.drop (k + 1)) % ss[k]) = 0 := by omega
    rcases Nat.mul_eq_zero.mp h3 with z | z
    · omega
    · exact z
  · rw [List.getElem?_eq_none (by rw [dg_len]; omega), List.getElem?_eq_none (by rw [List.length_replicate]; omega)]
theorem rep_pos {m k : Nat} (hm : 0 < m) : ∀ s ∈ List.replicate k m, 0 < s := fun s hs => by rw [List.eq_of_mem_replicate hs]; exact hm
/-- within a block the inputs are the same -/
theorem giv_same {m c i j : Nat} (hm : 0 < m) (h : memF2 m c (j + 1) ≠ zeroF c) : givF m c i (j + 1) = givF m c i j := by
  have h1 : (j + 1) % prodL ((List.replicate (i + c) m).drop i) ≠ 0 := fun z => h (by
    rw [List.drop_replicate, Nat.add_sub_cancel_left] at z
    unfold memF2 zeroF
    rw [dg_mul (rep_pos hm) z, List.length_replicate]
    show (List.replicate c 0).map _ = _
    rw [List.map_replicate]
    rfl)
  unfold givF
  congr 1
  refine List.ext_getElem? fun k => ?_
  rw [List.getElem?_take, List.getElem?_take]
  by_cases hk : k < i
  · rw [if_pos hk, if_pos hk]
    have hl : k < (List.replicate (i + c) m).length := by rw [List.length_replicate]; omega
    have e : (List.replicate (i + c) m)[k]? = some (List.replicate (i + c) m)[k] := List.getElem?_eq_getElem hl
    rw [dg_get e, dg_get e, div_same (prodL_pos fun x hx => rep_pos hm x (List.mem_of_mem_drop hx)) (mod_up (P := 0) h1 (k + 1) hk)]
  · rw [if_neg hk, if_neg hk]
theorem any_zero {c : Nat} {ns : List Int} (hl : ns.length = c) : (ns.any fun n => decide (n ≠ 0)) = false ↔ ns = zeroF c := by
  rw [List.any_eq_false]
  constructor
  · intro h
    unfold zeroF
    refine List.eq_replicate_iff.mpr ⟨hl, fun b hb => ?_⟩
    have := h b hb
    simpa using this
  · rintro rfl x hx
    rw [List.eq_of_mem_replicate hx]
    simp
/-- at a memory of noughts nothing leaks -/
theorem leak_zero {m c i t j : Nat} {ss : List Stp} (h : memF2 m c j = zeroF c) (ht : t < c) : leakF m c i ss t j = false := by
  unfold leakF amtF am0F behF
  rw [h]
  refine decide_eq_false fun z => z ?_
  congr 2
  unfold zeroF
  rw [List.getD_eq_getElem?_getD, List.getElem?_replicate, if_pos ht]
  rfl
theorem find_snoc {p : Nat → Bool} {n : Nat} : (List.range (n + 1)).find? p = ((List.range n).find? p).or (if p n = true then some n else none) := by
  rw [List.range_succ, List.find?_append]
  congr 1
  rw [List.find?_cons]
  cases p n <;> rfl
theorem find_first {p : Nat → Bool} {n k : Nat} (h : ∀ j, j < k → p j = false) (hk : p k = true) (hn : k < n) : (List.range n).find? p = some k := by
  rw [List.find?_eq_some_iff_append]
  refine ⟨hk, List.range k, (List.range (n - k - 1)).map (fun j => k + 1 + j), ?_, fun a ha => ?_⟩
  · rw [show n = k + 1 + (n - k - 1) by omega, List.range_add, List.range_succ, List.append_assoc]
    rw [show k + 1 + (n - k - 1) - k - 1 = n - k - 1 by omega]
    rfl
  · rw [h a (List.mem_range.mp ha)]; rfl
section
variable {m c i t n j : Nat} {ss : List Stp}
theorem leakW_some (h : (List.range n).find? (leakF m c i ss t) = some j) : leakW m c i ss t (n + 1) = leakW m c i ss t n := by
  unfold leakW
  rw [find_snoc, h]
  rfl
theorem leakW_no (h : (List.range n).find? (leakF m c i ss t) = none) (hf : leakF m c i ss t n = false) : leakW m c i ss t (n + 1) = .no := by
  unfold leakW
  rw [find_snoc, h, hf]
  rfl
theorem leakW_new (h : (List.range n).find? (leakF m c i ss t) = none) (hf : leakF m c i ss t n = true) : leakW m c i ss t (n + 1) = .lk (givF m c i n) (zeroF c) (memF2 m c n) := by
  unfold leakW
  rw [find_snoc, h, hf]
  rfl
theorem leakW_of_none (h : (List.range n).find? (leakF m c i ss t) = none) : leakW m c i ss t n = .no := by
  unfold leakW
  rw [h]
theorem leakW_of_some (h : (List.range n).find? (leakF m c i ss t) = some j) : leakW m c i ss t n = .lk (givF m c i j) (zeroF c) (memF2 m c j) := by
  unfold leakW
  rw [h]
theorem leakW_stay (hf : leakF m c i ss t n = false) : leakW m c i ss t (n + 1) = leakW m c i ss t n := by
  cases h : (List.range n).find? (leakF m c i ss t) with
  | some j => exact leakW_some h
  | none => rw [leakW_no h hf, leakW_of_none h]
theorem mem_first (hm : 0 < m) : memF2 m c 0 = zeroF c := by
  unfold memF2 zeroF
  rw [dg_zero (rep_pos hm), List.length_replicate]
  show (List.replicate c 0).map _ = _
  rw [List.map_replicate]
  rfl
theorem am0_same (h : givF m c i n = givF m c i j) : am0F m c i ss t n = am0F m c i ss t j := by unfold am0F; rw [h]
end
/-- the first that is spoilt among the first n points -/
def spW (m c i : Nat) (ss : List Stp) (t n : Nat) : Wit := match (List.range n).find? (fun j => decide (spoF m c i ss t j ≠ [])) with
  | some j => .sp (givF m c i j) (memF2 m c j) ((spoF m c i ss t j).headD 0)
  | none => .no
theorem verd_of {m c i t : Nat} {ss : List Stp} (h : spW m c i ss t (m ^ (i + c)) = .no) : verdF m c i ss t = leakW m c i ss t (m ^ (i + c)) := by
  unfold verdF
  unfold spW at h
  cases q : (List.range (m ^ (i + c))).find? (fun j => decide (spoF m c i ss t j ≠ [])) with
  | none => rfl
  | some j => rw [q] at h; cases h
theorem verd_sp {m c i t : Nat} {ss : List Stp} (h : spW m c i ss t (m ^ (i + c)) ≠ .no) : verdF m c i ss t = spW m c i ss t (m ^ (i + c)) := by
  unfold verdF
  unfold spW at h ⊢
  cases q : (List.range (m ^ (i + c))).find? (fun j => decide (spoF m c i ss t j ≠ [])) with
  | none => rw [q] at h; exact absurd rfl h
  | some j => rfl
theorem spW_none {m c i t n : Nat} {ss : List Stp} (h : ∀ j, j < n → spoF m c i ss t j = []) : spW m c i ss t n = .no := by
  unfold spW
  rw [List.find?_eq_none.mpr fun j hj => by
    have := h j (List.mem_range.mp hj)
    simp [this]]
theorem spW_first {m c i t n k h0 : Nat} {tl : List Nat} {ss : List Stp} (h : ∀ j, j < k → spoF m c i ss t j = []) (hk : spoF m c i ss t k = h0 :: tl) (hn : k < n) : spW m c i ss t n = .sp (givF m c i k) (memF2 m c k) h0 := by
  unfold spW
  rw [find_first (k := k) (fun j hj => by rw [h j hj]; simp) (by rw [hk]; simp) hn]
  show Wit.sp _ _ ((spoF m c i ss t k).headD 0) = _
  rw [hk]
  rfl
/-- one digit more -/
theorem dg_snoc {m j d : Nat} (hd : d < m) : ∀ {k : Nat}, dg (List.replicate (k + 1) m) (j * m + d) = dg (List.replicate k m) j ++ [d]
  | 0 => by
    show [(j * m + d) / 1 % m] = [d]
    rw [Nat.div_one, Nat.add_comm, Nat.add_mul_mod_self_right, Nat.mod_eq_of_lt hd]
  | k + 1 => by
    show (j * m + d) / prodL (List.replicate (k + 1) m) % m :: dg (List.replicate (k + 1) m) (j * m + d) = (j / prodL (List.replicate k m) % m :: dg (List.replicate k m) j) ++ [d]
    rw [dg_snoc hd, prod_rep, prod_rep, Nat.pow_succ, Nat.mul_comm (m ^ k) m, ← Nat.div_div_eq_div_mul, show (j * m + d) / m = j by
      rw [Nat.add_comm, Nat.add_mul_div_right _ _ (by omega), Nat.div_eq_of_lt hd, Nat.zero_add]]
    rfl
theorem head_filter {p : Nat → Bool} {c k : Nat} (h : ∀ j, j < k → p j = false) (hk : p k = true) (hc : k < c) : ∃ tl, (List.range c).filter p = k :: tl := by
  rw [show c = k + (1 + (c - k - 1)) by omega, List.range_add, List.filter_append]
  have e0 : (List.range k).filter p = [] := by
    rw [List.filter_eq_nil_iff]
    intro a ha
    rw [h a (List.mem_range.mp ha)]
    decide
  rw [e0, List.nil_append, Nat.add_comm 1, List.range_succ_eq_map, List.map_cons, List.filter_cons, Nat.add_zero, if_pos hk]
  exact ⟨_, rfl⟩
theorem filter_none {p : Nat → Bool} {c : Nat} (h : ∀ j, j < c → p j = false) : (List.range c).filter p = [] := by
  rw [List.filter_eq_nil_iff]
  intro a ha
  rw [h a (List.mem_range.mp ha)]
  decide
theorem leak_iff {m c i t j : Nat} {ss : List Stp} : leakF m c i ss t j = decide (((behF m c i ss j).getD t 0 - (memF2 m c j).getD t 0 - (runF m (givF m c i j) ss (zeroF c)).getD t 0) % (m : Int) ≠ 0) := by
  unfold leakF amtF am0F
  generalize (behF m c i ss j).getD t 0 - (memF2 m c j).getD t 0 = a
  generalize (runF m (givF m c i j) ss (zeroF c)).getD t 0 = b
  rw [Int.sub_zero]
  have e : (a % (m : Int) = b % (m : Int)) ↔ (a - b) % (m : Int) = 0 := Int.emod_eq_emod_iff_emod_sub_eq_zero
  by_cases h : (a - b) % (m : Int) = 0
  · rw [decide_eq_false (fun z => z (e.mpr h)), decide_eq_false (fun z => z h)]
  · rw [decide_eq_true (show a % (m : Int) ≠ b % (m : Int) from fun z => h (e.mp z)), decide_eq_true h]
end Br

namespace Br
open PySem PySem.Spec PyProof.Rows L2 Br.F
/-! ### what it is to be clean -/
theorem dg_onto {m : Nat} : ∀ {k : Nat} {ns : List Nat}, ns.length = k → (∀ d ∈ ns, d < m) → ∃ j, j < m ^ k ∧ dg (List.replicate k m) j = ns
  | 0, ns, h, _ => ⟨0, Nat.one_pos, by
    cases ns with
    | nil => rfl
    | cons a b => simp at h⟩
  | k + 1, ns, h, hd => by
    obtain ⟨ini, l, rfl⟩ : ∃ ini l, ns = ini ++ [l] := by
      refine ⟨ns.dropLast, ns.getLast (fun z => by rw [z] at h; simp at h), ?_⟩
      exact (List.dropLast_concat_getLast _).symm
    have hl : l < m := hd l (by simp)
    obtain ⟨j, hj, e⟩ := dg_onto (k := k) (ns := ini) (by rw [List.length_append] at h; exact Nat.succ.inj h) fun d q => hd d (List.mem_append_left _ q)
    refine ⟨j * m + l, ?_, by rw [dg_snoc hl, e]⟩
    rw [Nat.pow_succ]
    have := Nat.mul_le_mul_right m (Nat.succ_le_of_lt hj)
    rw [Nat.succ_mul] at this
    omega
theorem zI_toNat {m k : Nat} {xs : List Int} (h : Mem m k xs) : zI (xs.map Int.toNat) = xs := by
  unfold zI
  rw [List.map_map]
  have : ∀ x ∈ xs, ((fun n : Nat => (n : Int)) ∘ Int.toNat) x = x := fun x hx => Int.toNat_of_nonneg (h.rg x hx).1
  rw [List.map_congr_left this, List.map_id']
/-- every choice of inputs and memory is a point -/
theorem point_onto {m c i : Nat} {mv iv : List Int} (hm : Mem m c mv) (hi : Mem m i iv) : ∃ j, j < m ^ (i + c) ∧ givF m c i j = iv ∧ memF2 m c j = mv := by
  have hrg : ∀ {k : Nat} {xs : List Int}, Mem m k xs → ∀ d ∈ xs.map Int.toNat, d < m := fun h d hd => by
    obtain ⟨x, hx, rfl⟩ := List.mem_map.mp hd
    have := h.rg x hx
    omega
  obtain ⟨j, hj, e⟩ := dg_onto (m := m) (k := i + c) (ns := iv.map Int.toNat ++ mv.map Int.toNat) (by rw [List.length_append, List.length_map, List.length_map, hm.len, hi.len]) fun d hd => (List.mem_append.mp hd).elim (hrg hi d) (hrg hm d)
  have il : (iv.map Int.toNat).length = i := by rw [List.length_map, hi.len]
  refine ⟨j, hj, ?_, ?_⟩
  · unfold givF
    rw [e, List.take_left' il, zI_toNat hi]
  · rw [← mem_drop (i := i), e, List.drop_left' il, zI_toNat hm]
/-- the target gains A of the inputs, the others stay -/
def Adds (m c i t : Nat) (ss : List Stp) (A : List Int → Int) : Prop := ∀ mv iv, Mem m c mv → Mem m i iv → (∀ k, k < c → k ≠ t → (runF m iv ss mv).getD k 0 = mv.getD k 0) ∧ (m : Int) ∣ (runF m iv ss mv).getD t 0 - mv.getD t 0 - A iv
def Clean (m c i : Nat) (ss : List Stp) (t : Nat) : Prop := ∃ A, Adds m c i t ss A
theorem zero_get {c t : Nat} : (zeroF c).getD t 0 = 0 := by
  unfold zeroF
  rw [List.getD_eq_getElem?_getD, List.getElem?_replicate]
  split <;> rfl
theorem verd_clean {m c i t : Nat} {ss : List Stp} (hm : 0 < m) : verdF m c i ss t = .no ↔ Clean m c i ss t := by
  constructor
  · intro h
    have h1 : spW m c i ss t (m ^ (i + c)) = .no := by
      by_cases z : spW m c i ss t (m ^ (i + c)) = .no
      · exact z
      · rw [verd_sp z] at h; exact h
    have h2 : leakW m c i ss t (m ^ (i + c)) = .no := by rw [← verd_of h1]; exact h
    refine ⟨fun iv => (runF m iv ss (zeroF c)).getD t 0, fun mv iv hv hi => ?_⟩
    obtain ⟨j, hj, rfl, rfl⟩ := point_onto hv hi
    constructor
    · intro k hk hkt
      cases q : (List.range (m ^ (i + c))).find? (fun j => decide (spoF m c i ss t j ≠ [])) with
      | some j2 => unfold spW at h1; rw [q] at h1; cases h1
      | none =>
        have := List.find?_eq_none.mp q j (List.mem_range.mpr hj)
        have e : spoF m c i ss t j = [] := by simpa using this
        unfold spoF at e
        rw [List.filter_eq_nil_iff] at e
        have e2 := e k (List.mem_range.mpr hk)
        by_cases z : (behF m c i ss j).getD k 0 = (memF2 m c j).getD k 0
        · exact z
        · exact absurd (decide_eq_true ⟨fun y => z y.symm, hkt⟩) e2
    · cases q : (List.range (m ^ (i + c))).find? (leakF m c i ss t) with
      | some j2 => rw [leakW_of_some q] at h2; cases h2
      | none =>
        have := List.find?_eq_none.mp q j (List.mem_range.mpr hj)
        have e : leakF m c i ss t j = false := by simpa using this
        rw [leak_iff] at e
        have e2 : ((behF m c i ss j).getD t 0 - (memF2 m c j).getD t 0 - (runF m (givF m c i j) ss (zeroF c)).getD t 0) % (m : Int) = 0 := by
          by_cases z : ((behF m c i ss j).getD t 0 - (memF2 m c j).getD t 0 - (runF m (givF m c i j) ss (zeroF c)).getD t 0) % (m : Int) = 0
          · exact z
          · rw [decide_eq_true z] at e; cases e
        exact Int.dvd_of_emod_eq_zero e2
  · rintro ⟨A, h⟩
    have h1 : spW m c i ss t (m ^ (i + c)) = .no := spW_none fun j hj => filter_none fun k hk => decide_eq_false fun ⟨z1, z2⟩ => z1 ((h _ _ (mem_mem hm) (giv_mem hm)).1 k hk z2).symm
    rw [verd_of h1]
    refine leakW_of_none (List.find?_eq_none.mpr fun j hj => ?_)
    rw [leak_iff]
    have a := (h (memF2 m c j) (givF m c i j) (mem_mem hm) (giv_mem hm)).2
    have b := (h (zeroF c) (givF m c i j) (zero_mem hm) (giv_mem hm)).2
    have e : ((behF m c i ss j).getD t 0 - (memF2 m c j).getD t 0 - (runF m (givF m c i j) ss (zeroF c)).getD t 0) % (m : Int) = 0 := by
      refine Int.emod_eq_zero_of_dvd ?_
      have := Int.dvd_sub a b
      rw [zero_get] at this
      obtain ⟨q, e⟩ := this
      exact ⟨q, by rw [← e]; unfold behF; omega⟩
    rw [decide_eq_false (fun z => z e)]
    decide
section
variable {m c i t : Nat} {X Y X' : List Stp} {A B : List Int → Int}
theorem Adds.app (hm : 1 ≤ m) (hX : ∀ s, s ∈ X → StpOk m c i s) (a : Adds m c i t X A) (b : Adds m c i t Y B) : Adds m c i t (X ++ Y) (fun iv => A iv + B iv) := fun mv iv hv hi => by
  have h1 := a mv iv hv hi
  have h2 := b (runF m iv X mv) iv (runF_mem hm hv hX) hi
  rw [runF_app]
  refine ⟨fun k hk hkt => by rw [h2.1 k hk hkt, h1.1 k hk hkt], ?_⟩
  obtain ⟨q1, e1⟩ := h1.2
  obtain ⟨q2, e2⟩ := h2.2
  exact ⟨q1 + q2, by dsimp only; rw [Int.mul_add]; omega⟩
/-- the second of two, where the first is clean -/
theorem Adds.right (hm : 2 ≤ m) (hX : ∀ s, s ∈ X → StpOk m c i s) (hb : BackOf m X X') (a : Adds m c i t X A) (b : Adds m c i t (X ++ Y) B) : Adds m c i t Y (fun iv => B iv - A iv) := fun mv iv hv hi => by
  have hX' := hb.oks hm hX
  have h0 : Mem m c (runF m iv X' mv) := runF_mem (by omega) hv hX'
  have er : runF m iv X (runF m iv X' mv) = mv := runF_back (by omega) (hb.symm hX) hv hX'
  have h1 := a _ iv h0 hi
  have h2 := b _ iv h0 hi
  rw [er] at h1
  rw [runF_app, er] at h2
  refine ⟨fun k hk hkt => by rw [h2.1 k hk hkt, h1.1 k hk hkt], ?_⟩
  obtain ⟨q1, e1⟩ := h1.2
  obtain ⟨q2, e2⟩ := h2.2
  exact ⟨q2 - q1, by dsimp only; rw [Int.mul_sub]; omega⟩
/-- the first of two, where the second is clean -/
theorem Adds.left (hm : 1 ≤ m) (hX : ∀ s, s ∈ X → StpOk m c i s) (a : Adds m c i t Y A) (b : Adds m c i t (X ++ Y) B) : Adds m c i t X (fun iv => B iv - A iv) := fun mv iv hv hi => by
  have h1 := a (runF m iv X mv) iv (runF_mem hm hv hX) hi
  have h2 := b mv iv hv hi
  rw [runF_app] at h2
  refine ⟨fun k hk hkt => by rw [← h1.1 k hk hkt, h2.1 k hk hkt], ?_⟩
  obtain ⟨q1, e1⟩ := h1.2
  obtain ⟨q2, e2⟩ := h2.2
  exact ⟨q2 - q1, by dsimp only; rw [Int.mul_sub]; omega⟩
theorem Adds.back (hm : 2 ≤ m) (hX : ∀ s, s ∈ X → StpOk m c i s) (hb : BackOf m X X') (a : Adds m c i t X A) : Adds m c i t X' (fun iv => - A iv) := fun mv iv hv hi => by
  have hX' := hb.oks hm hX
  have h0 : Mem m c (runF m iv X' mv) := runF_mem (by omega) hv hX'
  have er : runF m iv X (runF m iv X' mv) = mv := runF_back (by omega) (hb.symm hX) hv hX'
  have h1 := a _ iv h0 hi
  rw [er] at h1
  refine ⟨fun k hk hkt => (h1.1 k hk hkt).symm, ?_⟩
  obtain ⟨q1, e1⟩ := h1.2
  exact ⟨-q1, by dsimp only; rw [Int.mul_neg]; omega⟩
theorem Adds.undo (hm : 2 ≤ m) (hX : ∀ s, s ∈ X → StpOk m c i s) (hb : BackOf m X X') : Adds m c i t (X ++ X') (fun _ => 0) := fun mv iv hv hi => by
  rw [runF_app, runF_back (by omega) hb hv hX]
  exact ⟨fun _ _ _ => rfl, 0, by dsimp only; omega⟩
end
theorem inv_exM {p k : Nat} (hp : IsPrime p) (h0 : k ≠ 0) (hk : k < p) : ∃ z : Nat, z < p ∧ z * k % p = 1 := by
  have p2 := hp.1
  have hnd : ¬ p ∣ k := fun h => by have := Nat.le_of_dvd (by omega) h; omega
  have hf := fermat hp hnd
  refine ⟨k ^ (p - 2) % p, Nat.mod_lt _ (by omega), ?_⟩
  rw [Nat.mul_comm, Nat.mul_mod_mod, ← Nat.pow_succ', show (p - 2).succ = p - 1 by omega, hf, Nat.mod_eq_of_lt (by omega)]
theorem step_back {m c i : Nat} {s : Stp} (hp : IsPrime m) (ok : StpOk m c i s) : ∃ s', IsBack m s s' := by
  cases s with
  | add t k fs => exact ⟨_, rfl⟩
  | swap a b => exact ⟨_, rfl⟩
  | tab t g tb a b => exact ⟨_, rfl⟩
  | scale t u =>
    obtain ⟨o1, o2, o3, o4⟩ := ok
    have m2 := hp.1
    have hu0 : u ≠ 0 := fun z => by
      rw [z, Int.gcd_zero_left] at o4
      have : (m : Int).natAbs = m := Int.natAbs_natCast m
      omega
    obtain ⟨z, z2, z3⟩ := inv_exM (k := u.toNat) hp (by omega) (by omega)
    refine ⟨_, (z : Int), rfl, by omega, by omega, ?_⟩
    have e : u = ((u.toNat : Nat) : Int) := by omega
    rw [e]
    exact_mod_cast z3
theorem back_ex {m c i : Nat} (hp : IsPrime m) : ∀ {ss : List Stp}, (∀ s, s ∈ ss → StpOk m c i s) → ∃ tt, BackOf m ss tt
  | [], _ => ⟨[], .nil⟩
  | s :: ss, h => by
    obtain ⟨s', h1⟩ := step_back hp (h s List.mem_cons_self)
    obtain ⟨tt, h2⟩ := back_ex hp fun x hx => h x (List.mem_cons_of_mem _ hx)
    exact ⟨_, .cons h1 h2⟩
end Br

namespace Br
open PySem PySem.Spec PyProof.Rows L2
section
variable {X : Cx}
/-- not in, a tuple of data -/
def rNotInC (K : PySem.W.Frag) : R2 := fun x y H Q => ∃ d ds, L2.Dp K H x d ∧ L2.Dp K H y (.tuple ds) ∧ (d.canLay0 = true ∧ d.depth ≤ 60) ∧ PyData.canLayAll0 ds = true ∧ Q (.bl (!ds.any fun z => PyData.eqv z d)) H
theorem op_notInC (hu : X.A.units + 64 < cLine) : OpR X (compareOp .NotIn) (rNotInC X.K) := by
  intro pins s σ H x y v u Q I rx ry h
  obtain ⟨d, ds, hd, he, ⟨sd, sd2⟩, se, q⟩ := h
  obtain ⟨as, r1⟩ := Dp.reads I d x v hd rx
  obtain ⟨bs, r2⟩ := Dp.reads I (.tuple ds) y u he ry
  exact SeqAt.notIn_tuple_reads r2 r1 se sd (by omega) ⟨.bl _, H, I, rfl, q⟩
end
/-- a factor as data -/
def facD : Fac → PyData
  | .cell k => .tuple [.str "cell", .int (k : Int)]
  | .inp k => .tuple [.str "input", .int (k : Int)]
theorem FacAt.dpC {K : PySem.W.Frag} {H : Hp} {a : Addr} : ∀ {f : Fac}, FacAt H a f → L2.Dp K H (.ref a) (facD f)
  | .cell k, h => .tup (st_of h) (.cons (.str _) (.cons (.int _) .nil))
  | .inp k, h => .tup (st_of h) (.cons (.str _) (.cons (.int _) .nil))
theorem facs_dpC {K : PySem.W.Frag} {H : Hp} : ∀ {as : List Addr} {fs : List Fac}, as.length = fs.length → (∀ (i : Nat) x b, fs[i]? = some x → as[i]? = some b → FacAt H b x) → L2.DpAll K H (as.map V.ref) (fs.map facD)
  | [], [], _, _ => .nil
  | [], f :: fs, h, _ => by simp at h
  | a :: as, [], h, _ => by simp at h
  | a :: as, f :: fs, h, q => .cons (q 0 f a rfl rfl).dpC (facs_dpC (by simpa using h) fun i x b e1 e2 => q (i + 1) x b (by simpa using e1) (by simpa using e2))
theorem facD_lay : ∀ {fs : List Fac}, PyData.canLayAll0 (fs.map facD) = true
  | [] => rfl
  | f :: fs => by
    have ih := facD_lay (fs := fs)
    have e1 : PyData.strOk ("cell" : Str) = true := by decide +kernel
    have e2 : PyData.strOk ("input" : Str) = true := by decide +kernel
    cases f with
    | cell k => simp [PyData.canLayAll0, PyData.canLay0, facD, e1, ih]
    | inp k => simp [PyData.canLayAll0, PyData.canLay0, facD, e2, ih]
theorem cellC_lay {t : Int} : (PyData.tuple [.str "cell", .int t]).canLay0 = true ∧ (PyData.tuple [.str "cell", .int t]).depth ≤ 60 := by
  have e1 : PyData.strOk ("cell" : Str) = true := by decide +kernel
  refine ⟨by simp [PyData.canLayAll0, PyData.canLay0, e1], ?_⟩
  show PyData.depth (.tuple [.str "cell", .int 0]) ≤ 60
  decide +kernel
end Br

namespace Br
open PySem PySem.Spec PyProof.Rows L2
/-- the items of xs[lo:hi:st] -/
def pickV (xs : List V) (lo hi st : Option Int) : List V := (sliceRange (sliceBounds lo hi st xs.length).1 (sliceBounds lo hi st xs.length).2.1 (sliceBounds lo hi st xs.length).2.2).filterMap (xs[·]?)
theorem vals_pick {xs : List V} {its : List Value} (r : Vals xs its) : ∀ ks : List Nat, Vals (ks.filterMap (xs[·]?)) (ks.filterMap (its.toArray[·]?))
  | [] => .nil
  | k :: ks => by
    have ih := vals_pick r ks
    rw [List.filterMap_cons, List.filterMap_cons]
    cases e : xs[k]? with
    | some x =>
      obtain ⟨u, hu, ru⟩ := r.get e
      have e2 : its.toArray[k]? = some u := by simpa using hu
      rw [e2]
      exact .cons ru ih
    | none =>
      have e2 : its.toArray[k]? = none := by
        have h1 := List.getElem?_eq_none_iff.mp e
        have h2 := r.length
        rw [Array.getElem?_eq_none_iff, List.size_toArray]
        omega
      rw [e2]
      exact ih
theorem pick_le (xs : List V) (lo hi st : Option Int) (h : (sliceRange (sliceBounds lo hi st xs.length).1 (sliceBounds lo hi st xs.length).2.1 (sliceBounds lo hi st xs.length).2.2).length ≤ sizeLine) : (pickV xs lo hi st).length ≤ sizeLine := Nat.le_trans (List.length_filterMap_le ..) h
/-- xs[lo:hi:st] of a list -/
def tSlSt (K : PySem.W.Frag) (te : TE) (tl th ts : TO) : TE := fun σ H Q => te σ H fun x H1 => tl σ H1 fun l H2 => th σ H2 fun u H3 => ts σ H3 fun st H4 => ∃ a xs, x = .ref a ∧ SqL K H4 a xs ∧ st ≠ some 0 ∧ (pickV xs l u st).length ≤ sizeLine ∧ ∀ p, H4 p = none → Q (.ref p) (upd H4 p (.lst (pickV xs l u st)))
theorem pe_slSt {X : Cx} {e : Expr} {lo hi : Option Expr} {se : Expr} {te : TE} {tl th ts : TO} {p2 pos : Pos} (he : PE X e te) (hl : PO X lo tl) (hu : PO X hi th) (hst : PO X (some se) ts) : PE X (.Subscript e (.Slice lo hi (some se) p2) pos) (tSlSt X.K te tl th ts) := by
  refine ⟨fun pins s σ H Q I h => ?_⟩
  refine Subscript_ (thn (he.run pins s σ H _ I h) fun v s1 ⟨x, H1, I1, r1, q1⟩ => ?_)
  refine wpAny_Slice (thn (hl.run pins s1 σ H1 _ I1 q1) fun vl s2 ⟨l, H2, I2, pl, q2⟩ => thn (hu.run pins s2 σ H2 _ I2 q2) fun vu s3 ⟨u, H3, I3, pu, q3⟩ => thn (hst.run pins s3 σ H3 _ I3 q3) fun vs s4 ⟨o, H4, I4, ps, q4⟩ => ?_)
  obtain ⟨a, xs, rfl, hx, h0, hle, q⟩ := q4
  cases r1
  have I5 : Inv X pins σ H4 { s4 with heap := s4.heap.push { cls := .type "slice", data := .fields #[vl, vu, vs] } } := I4.kept (t' := s4.toks) fun b ob q => Heap.get?_push_of_some _ q
  obtain ⟨its, r, ht, hz⟩ := I5.list hx
  have hlen := r.length
  show wpAny (model X.prog X.w) X.A (subscriptTail e (.Slice lo hi (some se) p2) (.ref a) (.ref s4.heap.objs.size)) (EP X pins σ Q) X.xe { s4 with heap := s4.heap.push { cls := .type "slice", data := .fields #[vl, vu, vs] } }
  refine tail_any (ops := [.ref a, .ref s4.heap.objs.size]) ht.isList.typeIs (PySem.slot_list_getitem.lookup) ?_ (by with_unfolding_all rfl)
  refine wpAny_getItem_list_slice ht.isList (Heap.IsSliceOf.new _ vl vu vs) pl pu ps h0 ?_ (by rw [List.size_toArray]; omega)
  refine ⟨.ref _, _, I5.laid (t' := s4.toks) (o := .lst (pickV xs l u o)) (fun b ob q => Heap.get?_push_of_some _ q) (Nat.le_refl _) ?_, rfl, q _ (I5.hok.fresh (Nat.le_refl _))⟩
  refine ⟨hle, (slicePick its.toArray l u o).toList, 0, ?_, ?_⟩
  · have := vals_pick r (sliceRange (sliceBounds l u o xs.length).1 (sliceBounds l u o xs.length).2.1 (sliceBounds l u o xs.length).2.2)
    unfold slicePick
    rw [List.size_toArray, ← hlen]
    exact this
  · rw [Array.toArray_toList]
    exact Heap.get?_push_size _ rfl
theorem pe_slStK {X : Cx} {K2 : PySem.W.Frag} {e : Expr} {te : TE} {tl th ts : TO} (hK : X.K = K2) (h : PE X e (tSlSt X.K te tl th ts)) : PE X e (tSlSt K2 te tl th ts) := by
  subst hK
  exact h
end Br

namespace Br
open PySem PySem.Spec PyProof.Rows L2 GenW
/-! ### zip(generator, list) in a comprehension -/
section
variable {P : Program} {w : World} {A : Around} {E : Value → Shared → Prop} {s : Shared}
/-- the next item of a generator, asked by a built-in -/
theorem nextOf_gen {a : Addr} {g n : Nat} {gs : GenState} {F : Nat → Shared → Shared → Prop} {Y : Protocol} {Q : Value → Shared → Prop} (hh : A.handled = none)
    (hl : s.heap.NoLimit) (hroom : A.depth < recursionLimit) (hg : s.heap.IsGen a g) (hgs : s.gens[g]? = some gs)
    (hgo : gs.Goes (model P w) A.in1 (fun n s₀ r s₁ => ((r = .ok (.ret .none) ∨ r = .ok .next) ∧ F n s₀ s₁) ∨ ∃ e, r = .error e ∧ False) Y n (.send .none) (s.setGen g .running))
    (hY : ∀ v s₁ gs', gs'.bare = true → Y (n - 1) (s.setGen g .running) v s₁ (fun r' s'' => match n with
        | 0 => False
        | m + 1 => gs'.Goes (model P w) A.in1 (fun n s₀ r s₁ => ((r = .ok (.ret .none) ∨ r = .ok .next) ∧ F n s₀ s₁) ∨ ∃ e, r = .error e ∧ False) Y m r' s'') → Q v (s₁.setGen g gs'))
    (hP : ∀ s₁, F n (s.setGen g .running) s₁ → ∀ h' e, (∀ b o, s₁.heap.get? b = some o → h'.get? b = some o) → (∃ o, h'.get? e = some o ∧ o.cls = .type "StopIteration") → s₁.heap.objs.size ≤ e → E (.ref e) { s₁.setGen g .finished with heap := h' }) :
    wpAny (model P w) A (Builtin.SmallTypes.nextOf (.ref a)) Q E s := by
  unfold Builtin.SmallTypes.nextOf
  refine wpAny_bind (wpAny_callSpecial?_slot (name := Str.ofString "__next__") hg.typeIs slot_gen_next
    (wpAny_call_entry slot_gen_next hg.typeIs entry_gen_next ?_ (args_gen_next _)))
  show wpAny _ A.in1 (Builtin.Generator.genWake (.ref a) (.send .none)) _ _ s
  unfold Builtin.Generator.genWake
  refine wpAny_bind (wpAny_holding (wpAny_genNumber hg (wpAny_bind (wpAny_genState hgs ?_))))
  cases gs with
  | running => exact hgo.elim
  | finished => exact hgo.elim
  | _ =>
    refine wpAny_bind (wpAny_roomToWake hl hroom ?_)
    show wpAny _ A.in1 (.resume g (.send .none) [] _) _ _ s
    refine wpAny_resumeQ hgs hgo (fun x s₁ hx => ?_) (fun v s₁ gs' hb hv => ?_)
    · rcases hx with ⟨hr, hp⟩ | ⟨e, rfl, he⟩
      · have hres : End.result (.ret x) = .returned .none := by
          rcases hr with hr | hr <;> rw [hr] <;> rfl
        first | rw [hres] | simp only [hres]
        show wpAny _ A.in1 (newExc (.type "StopIteration") [] >>= _) _ _ _
        refine wpAny_bind ?_
        simp only [newExc, newTuple]
        refine wpAny_bind (wpAny_newObj_type ?_ (by size_fits))
        refine wpAny_bind (m := firstArgMember _ _) (wpAny_of_eq (a := Value.none) (by first | rfl | (simp only [firstArgMember]; rfl)) ?_)
        refine wpAny_newObj_type ?_ (by size_fits)
        simp only [raiseNew]
        refine wpAny_bind (wpAny_bind (wpAny_handled ?_))
        first | rw [show A.in1.handled = none from hh] | rw [hh]
        refine wpAny_throw ?_
        refine hP s₁ hp _ _ (fun b o hb => Heap.get?_push_of_some _ (Heap.get?_push_of_some _ hb)) ⟨_, Heap.get?_push_size _ rfl, rfl⟩ ?_
        rw [Heap.size_push]
        exact Nat.le_succ _
      · exact he.elim
    · exact wpAny_pure ⟨v, rfl, wpAny_pure (hY v s₁ gs' hb hv)⟩
theorem zipG_item {z TI TO a i2 l2 : Addr} {k2 : Nat} {p q : Value} {R : Value → Value → Shared → Prop} {Q : Option Value → Shared → Prop} (TOz : TO ≠ z) (i2z : i2 ≠ z) (TOi2 : TO ≠ i2) (l2TO : l2 ≠ TO)
    (hz : IsZip s.heap z TI TO .none) (hTI : IsPair s.heap TI (.ref a) (.ref i2))
    (hgen : ∀ h₁, IsZip h₁ z TI TO .ellipsis → Heap.SameBut z s.heap h₁ → wpAny (model P w) A.in1 (Builtin.SmallTypes.nextOf (.ref a)) (fun v s' => ∃ (ys : Array Value) (y : Value), R v y s' ∧ IsZip s'.heap z TI TO .ellipsis ∧ IsPair s'.heap TO p q ∧ s'.heap.IsListIter i2 l2 k2 ∧ s'.heap.IsList l2 ys ∧ ys[k2]? = some y) (fun _ _ => False) { s with heap := h₁ })
    (hQ : ∀ v y s' h', R v y s' → IsZip h' z TI TO (rawInt s'.heap.objs.size) → IsPair h' TO v y → h'.IsListIter i2 l2 (k2 + 1) → IsPair h' s'.heap.objs.size v y → h'.objs.size = s'.heap.objs.size + 1 →
      (∀ c o, c ≠ z → c ≠ TO → c ≠ i2 → s'.heap.get? c = some o → h'.get? c = some o) → Q (some (.ref s'.heap.objs.size)) { s' with heap := h' }) :
    wpAny (model P w) A (pyNext (.ref z)) Q E s := by
  have hT : s.TypeIs (.ref z) "zip" := ⟨_, hz, rfl⟩
  unfold pyNext
  refine wpAny_bind (wpAny_attempt (wpAny_callSpecial?_slot (name := Str.ofString "__next__") hT F.slot_zip_next
    (wpAny_call_entry F.slot_zip_next hT F.entry_zip_next ?_ (F.args_zip_next_1 _))))
  show wpAny _ _ (field (.ref z) 2 >>= _) _ _ _
  refine wpAny_bind (wpAny_field hz rfl (x := .bool false) rfl ?_)
  show wpAny _ _ (field (.ref z) 3 >>= _) _ _ _
  refine wpAny_bind (wpAny_field hz rfl (x := .ref TI) rfl ?_)
  refine wpAny_bind (wpAny_seqItems hTI rfl ?_)
  show wpAny _ _ (Builtin.SmallTypes.ownedTupleIsFree (.ref z) >>= _) _ _ _
  refine wpAny_bind ?_
  unfold Builtin.SmallTypes.ownedTupleIsFree
  refine wpAny_bind (wpAny_field hz rfl (x := .none) rfl (wpAny_pure ?_))
  simp only [if_true]
  refine wpAny_bind (wpAny_rule ?_)
  refine wpAny_bind (wpAny_field hz rfl (x := .ref TO) rfl ?_)
  refine wpAny_bind (wpAny_setField_rec hz (by simp) fun h₁ hz₁ hs₁ => ?_)
  replace hz₁ : IsZip h₁ z TI TO .ellipsis := hz₁
  refine wpAny_bind ?_
  simp only [List.zipIdx_cons, List.zipIdx_nil, List.forIn_cons, List.forIn_nil]
  refine wpAny_bind (wpAny_bind (wpAny_onRaise ?_))
  show wpAny _ _ (Builtin.SmallTypes.nextOf (.ref a) >>= _) _ _ _
  refine wpAny_bind (wpAny_mono (hgen h₁ hz₁ hs₁) (fun v s' hv => ?_) fun _ _ f => f.elim)
  obtain ⟨hp, g', d', tk', os'⟩ := s'
  obtain ⟨ys, y, hR, hz₂, hTO₂, h2, hl2, hy⟩ := hv
  refine wpAny_pure ?_
  refine wpAny_bind (wpAny_seqItems hTO₂ rfl ?_)
  refine wpAny_bind (wpAny_updateSeq_pair hTO₂ fun h₃ hTO₃ hs₃ => ?_)
  replace hTO₃ : IsPair h₃ TO v q := hTO₃
  refine wpAny_bind (wpAny_letGo (wpAny_pure ?_))
  refine wpAny_bind (wpAny_bind (wpAny_onRaise ?_))
  show wpAny _ _ (Builtin.SmallTypes.nextOf (.ref i2) >>= _) _ _ _
  refine wpAny_bind (wpAny_nextOf_list_item (h2.extBut hs₃.extBut TOi2.symm) (hl2.extBut hs₃.extBut l2TO) hy fun h₄ h2₄ hs₄ => wpAny_pure ?_)
  have hTO₄ : IsPair h₄ TO v q := hs₄.extBut _ _ TOi2 hTO₃
  refine wpAny_bind (wpAny_seqItems hTO₄ rfl ?_)
  refine wpAny_bind (wpAny_updateSeq_pair hTO₄ fun h₅ hTO₅ hs₅ => ?_)
  replace hTO₅ : IsPair h₅ TO v y := hTO₅
  refine wpAny_bind (wpAny_letGo (wpAny_pure (wpAny_pure ?_)))
  refine wpAny_bind (wpAny_seqItems hTO₅ rfl ?_)
  refine wpAny_bind (wpAny_newTuple ?_)
  have hsz : h₅.objs.size = hp.objs.size := by rw [hs₅.1, hs₄.1, hs₃.1]
  have hz₅ : IsZip h₅ z TI TO .ellipsis := hs₅.extBut _ _ TOz.symm (hs₄.extBut _ _ i2z.symm (hs₃.extBut _ _ TOz.symm hz₂))
  have hk₅ : ∀ c o, c ≠ z → c ≠ TO → c ≠ i2 → hp.get? c = some o → h₅.get? c = some o := fun c o c1 c2 c4 e =>
    hs₅.extBut _ _ c2 (hs₄.extBut _ _ c4 (hs₃.extBut _ _ c2 e))
  have h2₅ : h₅.IsListIter i2 l2 (k2 + 1) := h2₄.extBut hs₅.extBut TOi2.symm
  have hzlt : z < h₅.objs.size := Heap.lt_size hz₅
  show wpAny _ _ (Builtin.SmallTypes.ownedTupleHandOut (.ref z) (.ref h₅.objs.size) >>= _) _ _ _
  refine wpAny_bind ?_
  unfold Builtin.SmallTypes.ownedTupleHandOut
  have hz₆ : IsZip (h₅.push { cls := .type "tuple", data := .seq #[v, y] }) z TI TO .ellipsis := Heap.get?_push_of_some _ hz₅
  refine wpAny_bind (wpAny_setField_rec hz₆ (by simp) fun h₇ hz₇ hs₇ => ?_)
  replace hz₇ : IsZip h₇ z TI TO (rawInt h₅.objs.size) := hz₇
  refine wpAny_setField_rec hz₇ (by simp) fun h₈ hz₈ hs₈ => ?_
  replace hz₈ : IsZip h₈ z TI TO (rawInt h₅.objs.size) := hz₈
  have up : ∀ c o, c ≠ z → h₅.get? c = some o → h₈.get? c = some o := fun c o c1 e => hs₈.extBut _ _ c1 (hs₇.extBut _ _ c1 (Heap.get?_push_of_some _ e))
  have hT₈ : IsPair h₈ h₅.objs.size v y := hs₈.extBut _ _ (Nat.ne_of_gt hzlt) (hs₇.extBut _ _ (Nat.ne_of_gt hzlt) (Heap.get?_push_size _ rfl))
  have hz8 : h₈.objs.size = h₅.objs.size + 1 := by rw [hs₈.1, hs₇.1, Heap.size_push]
  rw [hsz] at hz₈ hT₈ hz8
  refine wpAny_pure ⟨_, rfl, ?_⟩
  refine wpAny_pure ?_
  show Q (some (.ref h₅.objs.size)) _
  rw [hsz]
  exact hQ v y _ h₈ hR hz₈ (up _ _ TOz hTO₅) (h2₅.at fun o e => up _ o i2z e) hT₈ hz8 fun c o c1 c2 c4 e => up c o c1 (hk₅ c o c1 c2 c4 e)
theorem zipG_end {z TI TO a i2 : Addr} {R : Shared → Prop} {Q : Option Value → Shared → Prop}
    (hz : IsZip s.heap z TI TO .none) (hTI : IsPair s.heap TI (.ref a) (.ref i2))
    (hgen : ∀ h₁, IsZip h₁ z TI TO .ellipsis → Heap.SameBut z s.heap h₁ → wpAny (model P w) A.in1 (Builtin.SmallTypes.nextOf (.ref a)) (fun _ _ => False) (fun e s' => ∃ he, e = .ref he ∧ he ≠ z ∧ (∃ o, s'.heap.get? he = some o ∧ o.cls = .type "StopIteration") ∧ R s' ∧ IsZip s'.heap z TI TO .ellipsis) { s with heap := h₁ })
    (hQ : ∀ s' h', R s' → (∀ c o, c ≠ z → s'.heap.get? c = some o → h'.get? c = some o) → Q none { s' with heap := h' }) :
    wpAny (model P w) A (pyNext (.ref z)) Q E s := by
  have hT : s.TypeIs (.ref z) "zip" := ⟨_, hz, rfl⟩
  unfold pyNext
  refine wpAny_bind (wpAny_attempt (wpAny_callSpecial?_slot (name := Str.ofString "__next__") hT F.slot_zip_next
    (wpAny_call_entry F.slot_zip_next hT F.entry_zip_next ?_ (F.args_zip_next_1 _))))
  show wpAny _ _ (field (.ref z) 2 >>= _) _ _ _
  refine wpAny_bind (wpAny_field hz rfl (x := .bool false) rfl ?_)
  show wpAny _ _ (field (.ref z) 3 >>= _) _ _ _
  refine wpAny_bind (wpAny_field hz rfl (x := .ref TI) rfl ?_)
  refine wpAny_bind (wpAny_seqItems hTI rfl ?_)
  show wpAny _ _ (Builtin.SmallTypes.ownedTupleIsFree (.ref z) >>= _) _ _ _
  refine wpAny_bind ?_
  unfold Builtin.SmallTypes.ownedTupleIsFree
  refine wpAny_bind (wpAny_field hz rfl (x := .none) rfl (wpAny_pure ?_))
  simp only [if_true]
  refine wpAny_bind (wpAny_rule ?_)
  refine wpAny_bind (wpAny_field hz rfl (x := .ref TO) rfl ?_)
  refine wpAny_bind (wpAny_setField_rec hz (by simp) fun h₁ hz₁ hs₁ => ?_)
  replace hz₁ : IsZip h₁ z TI TO .ellipsis := hz₁
  refine wpAny_bind ?_
  simp only [List.zipIdx_cons, List.zipIdx_nil, List.forIn_cons, List.forIn_nil]
  refine wpAny_bind (wpAny_bind (wpAny_onRaise ?_))
  show wpAny _ _ (Builtin.SmallTypes.nextOf (.ref a) >>= _) _ _ _
  refine wpAny_bind (wpAny_mono (hgen h₁ hz₁ hs₁) (fun v s' hv => hv.elim) fun e s' he => ?_)
  obtain ⟨hp, g', d', tk', os'⟩ := s'
  obtain ⟨he, rfl, hez, ⟨oe, hoe, hce⟩, hR, hz₂⟩ := he
  refine wpAny_setField_rec hz₂ (by simp) fun h₃ _ hs₃ => ?_
  refine wpAny_bind (wpAny_isInstance (T := "StopIteration") (b := true) ⟨oe, hs₃.extBut _ _ hez hoe, hce⟩ isSubtype_stop ?_)
  exact wpAny_pure (hQ _ h₃ hR fun c o c1 x => hs₃.extBut _ _ c1 x)
end
end Br

namespace Br
open PySem PySem.Spec PyProof.Rows L2 GenW
/-- a generator just made by a call -/
structure GenMade (X : Cx) (L a : Addr) (g : Nat) (sh : List (Addr × List V)) (nm : List Str) (n : Nat) (items : Nat → List V) (s3 : Shared) : Prop where
  gen : s3.heap.IsGen a g
  lt : L < a
  st : ∀ b ∈ frs X.stack, b < L
  own : ∃ o, s3.heap.get? L = some o ∧ ∀ v, o.data ≠ .cell v
  shl : ∀ p ∈ sh, p.1 < L
  goes : ∃ gs, s3.gens[g]? = some gs ∧ ∀ s2, Awk X.prog X.w X.base X.stack L sh (sh.map (·.1)) s3 s2 → L ≤ s2.heap.objs.size → gs.Goes (model X.prog X.w) X.A.in1.in1 (RG X.prog X.w X.stack L sh nm n) (YG X.prog X.w X.base X.stack L sh nm n items) n (.send .none) s2
theorem eval_gen {X : Cx} {k : Nat} {f : Addr} {ps : List Str} {spec : SpG4} {x : Str} {p cpos : Pos} {e1 : Expr} {es : List Expr} {t : TA} (G : GenFn X.prog X.w X.K X.mg X.base k f ps spec) (hr : Room (k + 4) X.A) (hg : Gl X x) (hm : X.mg x = some (.ref f)) (hk : PySem.W.keepIn X.K (.ref f) = true) (hb : Binds X.K G.fd ps [])
    (ha : PA X (e1 :: es) t) (hdb : (x == ("__debug__" : Str)) = false) (he : starEach (e1 :: es) X.env = (false, eval e1 X.env) :: starEach es X.env) (hpl : (backTo cpos (starEach es X.env)).any (·.1) = false)
    {pins : List (Addr × Obj)} {s : Shared} {σ : L2.St} {H : Hp} (I : Inv X pins σ H s) {R : List (Addr × List V) → Nat → (Nat → List V) → Hp → Prop}
    (h : t σ H fun vs H1 => ∃ sh n items, spec vs H1 sh n items ∧ (∀ p ∈ sh, H1 p.1 = some (.lst p.2)) ∧ R sh n items H1) {Q : Value → Shared → Prop}
    (hQ : ∀ s3 L a g sh n items H1, Inv X pins σ H1 s3 → FpOk X pins H1 L → FpOk X pins H1 a → GenMade X L a g sh G.nm n items s3 → 0 < n → (∀ p ∈ sh, H1 p.1 = some (.lst p.2)) → R sh n items H1 → Q (.ref a) s3) :
    wpAny (model X.prog X.w) X.A (eval (.Call (.Name x p) (e1 :: es) [] cpos) X.env) Q X.xe s := by
  refine wpAny_Call_Name_kw (ld_glob I hg hm ?_ hdb)
  refine PySem.W.callWith_K (h₀ := X.base) I.ok.mod.kin hk (thn (ha.run cpos pins s σ H _ I h) fun us s1 ⟨vs, H1, I1, rv, q⟩ => ⟨I1.kIn, ?_⟩) he hpl
  obtain ⟨sh, n, items, hsp, hsh, hR⟩ := q
  have hl := G.len _ _ _ _ _ hsp
  have hn := G.pos _ _ _ _ _ hsp
  have S := G.S
  have e0 := I1.env0
  have KX := I1.kIn
  refine wpAny_call ?_
  have hlk := KX _ _ G.lk
  have hbt : BindsTo s1 G.fd ⟨us, []⟩ (ps.zip us) := by
    have := hb s1 us KX (by rw [List.append_nil, ← rv.length]; exact hl)
    rwa [List.append_nil] at this
  have hkind : ∀ y ∈ ps.zip us, G.scope.names.lookup y.1 = some .local ∨ (G.scope.names.lookup y.1 = some .cell ∧ ((cellsFrom (s1.heap.objs.size + 1) G.scope.names []).lookup y.1).isSome = true) := fun ⟨z, v⟩ hy => by
    rcases S.par z (List.of_mem_zip hy).1 with q | q
    · exact .inl q
    · exact .inr ⟨q, PySem.W.cellsFrom_some _ _ _ (.inl q)⟩
  have hdp : X.A.depth < recursionLimit := by have := hr.dp; omega
  refine codeAny_call_generator hdp hlk (fd := G.fd) rfl S.co S.gen rfl (PySem.W.codeRec_of KX G.hcd) (hbt _ _ _ _ ?_)
  refine wpAny_newFunctionEnv_cells S.kind hkind fun env henv s2 y => ?_
  subst henv
  have kp2 : ∀ b o, s1.heap.get? b = some o → s2.heap.get? b = some o := y.toInCall.keep
  have lt2 : s1.heap.objs.size < s2.heap.objs.size := y.toInCall.ns.lt
  obtain ⟨oL, esL, epL, hoL, hdL, _⟩ := y.toInCall.ns
  obtain ⟨h2', tk2, es2, _⟩ := y.done
  have os2 : s2.os = s1.os := by rw [es2]
  have gn2 : s2.gens = s1.gens := by rw [es2]
  have lim1 : s1.heap.NoLimit := I1.nolimit
  have lim2 : s2.heap.NoLimit := lim1.keeps kp2
  refine ⟨lim2, ?_⟩
  have hst : ∀ b ∈ frs X.stack, b < s1.heap.objs.size := fun b hb => by
    rcases List.mem_cons.mp (I1.stkSub b hb) with z | z
    · rw [z]; exact I1.lt
    · obtain ⟨_, o, ho, _⟩ := I1.ok.funs.mem z
      exact Nat.lt_of_lt_of_le (Heap.lt_size ho) I1.sz
  have main : ∀ (go : Obj) (nm' qn : Value) (tk : Nat), go.cls = .type "generator" → go.data = .fields #[.int s2.gens.size 0, nm', qn] → go.slots = #[] → (∀ h : Heap, (h.push go).get? h.objs.size = some go) →
      Q (.ref s2.heap.objs.size) { s2 with gens := s2.gens.push (.fresh (.func (G.pre ++ [.While G.test (.Expr (.Yield (some G.e) G.yp) G.epos :: G.post) [] G.wpos]) (envOfC G.qual G.scope s1.heap.objs.size f G.cdv))), toks := tk, heap := s2.heap.push go } := by
    intro go nm' qn tk hgc hgd hgs hgp
    have hpushed : (s2.heap.push go).get? s2.heap.objs.size = some go := hgp _
    have kp23 : ∀ b o, s2.heap.get? b = some o → (s2.heap.push go).get? b = some o := fun b o e => Heap.get?_push_of_some _ e
    have kp3 : ∀ b o, s1.heap.get? b = some o → (s2.heap.push go).get? b = some o := fun b o e => kp23 b o (kp2 b o e)
    have hgen : (s2.heap.push go).IsGen s2.heap.objs.size s2.gens.size := ⟨go, nm', qn, hpushed, hgc, hgd, hgs⟩
    have hrw : Room (k + 2) X.A.in1.in1 := Room.in1 (Room.in1 hr)
    have e0w : Env0 X.prog X.w X.K X.mg X.base X.A.in1.in1 X.stack s1 H1 := ⟨e0.frames, e0.mod, e0.bs, e0.bsz, e0.funs, e0.frf, e0.hok, e0.bare⟩
    have Ig0 := inv_startG (E := fun _ _ _ => True) (cd := G.cdv) (f := f) (qual := G.qual) S hrw.hd e0w hl rv y
    have Ig : Inv (gcx X.prog X.w X.K X.mg X.base (X.A.in1.in1.deeper (envOfC G.qual G.scope s1.heap.objs.size f G.cdv)) G.N X.stack (envOfC G.qual G.scope s1.heap.objs.size f G.cdv) s1 H1) [] (start G.N vs) H1 s2 :=
      ⟨⟨Ig0.ok.mod, Ig0.ok.kind, Ig0.ok.glob, Ig0.ok.blt, Ig0.ok.above, Ig0.ok.inj, Ig0.ok.has, Ig0.ok.cab, Ig0.ok.hd, Ig0.ok.frames, Ig0.ok.stk, Ig0.ok.exf, Ig0.ok.bs, Ig0.ok.bsz, Ig0.ok.noex, Ig0.ok.exfs, Ig0.ok.funs, Ig0.ok.frf⟩, Ig0.os, Ig0.bare, Ig0.base, Ig0.loc, Ig0.cell, Ig0.free, Ig0.freeC, Ig0.pin, Ig0.hok, Ig0.len⟩
    have hcell : ∀ z, (envOfC G.qual G.scope s1.heap.objs.size f G.cdv).cells.lookup z = none := fun z => G.noc _ z
    have bare3 : AllBare (s2.gens.push (.fresh (.func (G.pre ++ [.While G.test (.Expr (.Yield (some G.e) G.yp) G.epos :: G.post) [] G.wpos]) (envOfC G.qual G.scope s1.heap.objs.size f G.cdv)))) := AllBare.push (by rw [gn2]; exact I1.bare) rfl
    have I3 : Inv X pins σ H1 { s2 with gens := s2.gens.push (.fresh (.func (G.pre ++ [.While G.test (.Expr (.Yield (some G.e) G.yp) G.epos :: G.post) [] G.wpos]) (envOfC G.qual G.scope s1.heap.objs.size f G.cdv))), toks := tk, heap := s2.heap.push go } :=
      I1.call' (ch := []) os2 (Un.kept kp3) (I1.hok.kept kp3) bare3 fun b z => by simp at z
    have shlt : ∀ p ∈ sh, p.1 < s1.heap.objs.size := fun p hp => I1.hok.lt (hsh p hp)
    have hks : ∀ b ∈ sh.map (·.1), b < s1.heap.objs.size ∧ ∃ xs, (b, xs) ∈ sh ∧ H1 b = some (.lst xs) := fun b hb => by
      obtain ⟨p, hp, rfl⟩ := List.mem_map.mp hb
      exact ⟨shlt p hp, p.2, hp, hsh p hp⟩
    have freshH : ∀ b, s1.heap.objs.size ≤ b → H1 b = none := fun b hb => I1.hok.fresh hb
    generalize hs3 : ({ s2 with gens := s2.gens.push (.fresh (.func (G.pre ++ [.While G.test (.Expr (.Yield (some G.e) G.yp) G.epos :: G.post) [] G.wpos]) (envOfC G.qual G.scope s1.heap.objs.size f G.cdv))), toks := tk, heap := s2.heap.push go } : Shared) = s3 at I3
    have e3h : s3.heap = s2.heap.push go := by rw [← hs3]
    have e3g : s3.gens[s2.gens.size]? = some (.fresh (.func (G.pre ++ [.While G.test (.Expr (.Yield (some G.e) G.yp) G.epos :: G.post) [] G.wpos]) (envOfC G.qual G.scope s1.heap.objs.size f G.cdv))) := by rw [← hs3]; exact Array.getElem?_push_size ..
    refine hQ s3 s1.heap.objs.size s2.heap.objs.size s2.gens.size sh n items H1 I3 (I1.fpOk (Nat.le_refl _) (freshH _ (Nat.le_refl _))) (I1.fpOk (Nat.le_of_lt lt2) (freshH _ (Nat.le_of_lt lt2))) ⟨by rw [e3h]; exact hgen, lt2, hst, ⟨oL, by rw [e3h]; exact kp23 _ _ hoL, fun x z => by rw [hdL] at z; cases z⟩, shlt, _, e3g, fun s4 aw hz4 => ?_⟩ hn hsh hR
    refine ⟨rfl, ?_⟩
    obtain ⟨SP⟩ := G.body X.A.in1.in1 X.stack s1.heap.objs.size vs H1 sh n items (Room.mono (hrw.deeper _) (Nat.le_succ _)) hsp
    have aw2 : Awk X.prog X.w X.base X.stack (envOfC G.qual G.scope s1.heap.objs.size f G.cdv).locals sh (sh.map (·.1)) s2 s4 :=
      ⟨aw.bare, fun b hb o eo => aw.own b hb o (by rw [e3h]; exact kp23 b o eo), aw.shr, aw.bas, aw.funs⟩
    have Iw := wake_inv Ig hcell (fun b hb => let ⟨_, xs, _, z⟩ := hks b hb; ⟨xs, z⟩) (fun b hb _ => let ⟨_, xs, z1, z2⟩ := hks b hb; ⟨xs, z1, z2⟩) aw2
    refine seg_body SP (fun z hz => G.loc z hz) hcell S.co (G.inter _) ⟨⟨_, Iw, ExtK.refl, fun b o h1 h2 h3 => ?_, fun b h1 h2 => ?_⟩, Dead.refl⟩ hz4 fun p hp => ?_
    · unfold wakeH
      rw [if_neg h2, if_pos h1, h3]
      rfl
    · unfold wakeH
      rw [if_neg h2, if_neg (Nat.lt_asymm h1)]
    · have hm : p.1 ∈ sh.map (·.1) := List.mem_map.mpr ⟨p, hp, rfl⟩
      unfold wakeH
      rw [if_pos hm]
      exact hsh p hp
  exact main _ _ _ _ rfl rfl rfl fun h => Heap.get?_push_size _ rfl
end Br

namespace Br
open PySem PySem.Spec PyProof.Rows L2 GenW
/-- a piece of the consumer's work while the generator sleeps -/
theorem wk_run {α : Type} {X : Cx} {pins : List (Addr × Obj)} {σ : L2.St} {H : Hp} {s : Shared} {t : Sem α} {M : Model} {A : Around} {g : Nat} {gs' : GenState} (I : Inv X pins σ H s) (hg : s.gens[g]? = some gs') (hsl : asleep gs' = true) {Q : α → Shared → Prop} {E : Value → Shared → Prop} (hx : ∀ u s, ¬ E u s)
    (h : ∀ z, Inv X pins σ H z → wpAny M A t Q E z) : wpAny M A t (fun a s' => ∃ z, Q a z ∧ s'.gens[g]? = some gs' ∧ ∀ {pins' : List (Addr × Obj)} {σ' : L2.St} {H' : Hp}, Inv X pins' σ' H' z → Inv X pins' σ' H' s') (fun _ _ => False) s :=
  wpAny_mono (wpAny_wk (h _ (Inv.gens I (bare_numb I.bare)))) (fun _ s' ⟨z, ez, N, q⟩ => ⟨z, q, by rw [ez]; exact wk_kept N hg hsl, fun {_ _ _} I' => by rw [ez]; exact Inv.gens I' (bare_wake I.bare I'.bare)⟩) fun _ _ ⟨_, _, _, hz⟩ => hx _ _ hz
structure ZDiff (L a z TI TO i2 : Addr) : Prop where
  La : L < a
  Lz : L < z
  LTI : L < TI
  LTO : L < TO
  Li2 : L < i2
  TIz : TI ≠ z
  TOz : TO ≠ z
  az : a ≠ z
  i2z : i2 ≠ z
  TITO : TI ≠ TO
  TIi2 : TI ≠ i2
  TOa : TO ≠ a
  TOi2 : TO ≠ i2
  ai2 : a ≠ i2
structure ZStand (X : Cx) (L a z TI TO i2 l2 : Addr) (g : Nat) (sh : List (Addr × List V)) (nm : List Str) (n : Nat) (items : Nat → List V) (W : Nat → Hp → Prop) (σ : L2.St) (i : Nat) (H : Hp) (s : Shared) : Prop where
  inv : Inv X [] σ H s
  w : W i H
  gen : s.heap.IsGen a g
  zip : IsZip s.heap z TI TO .none
  pti : IsPair s.heap TI (.ref a) (.ref i2)
  pto : ∃ x y, IsPair s.heap TO x y
  it : s.heap.IsListIter i2 l2 i
  own : ∃ o, s.heap.get? L = some o ∧ ∀ v, o.data ≠ .cell v
  goes : ∃ gs, s.gens[g]? = some gs ∧ ∀ s2, Awk X.prog X.w X.base X.stack L sh (startK nm L sh i s.heap) s s2 → L ≤ s2.heap.objs.size → gs.Goes (model X.prog X.w) X.A.in1.in1 (RG X.prog X.w X.stack L sh nm n) (YG X.prog X.w X.base X.stack L sh nm n items) (n - i) (.send .none) s2
  fp : ∀ b, b = L ∨ b = a ∨ b = z ∨ b = TI ∨ b = TO ∨ b = i2 → FpOk X [] H b
  ks : ∀ b ∈ startK nm L sh i s.heap, (b < L → ∃ xs, (b, xs) ∈ sh) ∧ (L < b → FpOk X [] H b) ∧ b ≠ a ∧ b ≠ z ∧ b ≠ TI ∧ b ≠ TO ∧ b ≠ i2
/-- what is pinned while the turn's work is done -/
def fpZ (nm : List Str) (L a z TI TO i2 : Addr) (h : Heap) : List Addr := L :: a :: z :: TI :: TO :: i2 :: (ownK nm L h).filter fun b => decide (L < b)
theorem mem_fpZ {nm : List Str} {L a z TI TO i2 b : Addr} {h : Heap} : b ∈ fpZ nm L a z TI TO i2 h ↔ (b = L ∨ b = a ∨ b = z ∨ b = TI ∨ b = TO ∨ b = i2) ∨ (b ∈ ownK nm L h ∧ L < b) := by
  unfold fpZ
  simp only [List.mem_cons, List.mem_filter, decide_eq_true_eq]
  constructor
  · rintro (h | h | h | h | h | h | h)
    · exact .inl (.inl h)
    · exact .inl (.inr (.inl h))
    · exact .inl (.inr (.inr (.inl h)))
    · exact .inl (.inr (.inr (.inr (.inl h))))
    · exact .inl (.inr (.inr (.inr (.inr (.inl h)))))
    · exact .inl (.inr (.inr (.inr (.inr (.inr h)))))
    · exact .inr h
  · rintro ((h | h | h | h | h | h) | h)
    · exact .inl h
    · exact .inr (.inl h)
    · exact .inr (.inr (.inl h))
    · exact .inr (.inr (.inr (.inl h)))
    · exact .inr (.inr (.inr (.inr (.inl h))))
    · exact .inr (.inr (.inr (.inr (.inr (.inl h)))))
    · exact .inr (.inr (.inr (.inr (.inr (.inr h)))))
theorem FpOk.at {X : Cx} {pins : List (Addr × Obj)} {H H' : Hp} {b : Addr} (f : FpOk X pins H b) (h : H' b = none) : FpOk X pins H' b := ⟨h, f.2⟩
/-- behind the generator's stretch -/
structure ZMid (X : Cx) (L a z TI TO i2 : Addr) (g : Nat) (sh : List (Addr × List V)) (nm : List Str) (n : Nat) (items : Nat → List V) (σ : L2.St) (i : Nat) (H : Hp) (v : Value) (r : Addr) (gs' : GenState) (s : Shared) : Prop where
  ev : v = .ref r
  rn : H r = none
  rL : r ≠ L ∧ r ≠ a ∧ r ≠ z ∧ r ≠ TI ∧ r ≠ TO ∧ r ≠ i2
  inv : Inv X [] σ (upd H r (.tup (items i))) s
  gen : s.heap.IsGen a g
  pti : IsPair s.heap TI (.ref a) (.ref i2)
  hg : s.gens[g]? = some gs'
  sl : asleep gs' = true
  own : ∃ o, s.heap.get? L = some o ∧ ∀ v, o.data ≠ .cell v
  ks : ∀ b ∈ ownK nm L s.heap, (b < L → ∃ xs, (b, xs) ∈ sh) ∧ (L < b → FpOk X [] (upd H r (.tup (items i))) b ∧ ∃ o, s.heap.get? b = some o ∧ ∀ v, o.data ≠ .cell v) ∧ b ≠ a ∧ b ≠ z ∧ b ≠ TI ∧ b ≠ TO ∧ b ≠ i2
  goes : ∀ s2, Awk X.prog X.w X.base X.stack L sh (ownK nm L s.heap) s s2 → gs'.Goes (model X.prog X.w) X.A.in1.in1 (RG X.prog X.w X.stack L sh nm n) (YG X.prog X.w X.base X.stack L sh nm n items) (n - (i + 1)) (.send .none) s2
section
variable {X : Cx} {L a z TI TO i2 l2 D : Addr} {g n i : Nat} {sh : List (Addr × List V)} {nm : List Str} {items : Nat → List V} {ys : List V} {W : Nat → Hp → Prop} {σ : L2.St} {H : Hp} {s : Shared}
theorem zstand_next (hc : X.calm = true) (hd : X.A.depth < recursionLimit) (hst : ∀ b ∈ frs X.stack, b < L) (Z : ZDiff L a z TI TO i2)
    (wsh : (∀ p ∈ sh, H p.1 = some (.lst p.2)) ∧ H l2 = some (.lst ys)) (hi : i < n) (St : ZStand X L a z TI TO i2 l2 g sh nm n items W σ i H s) {x0 y0 : Value} (hTO : IsPair s.heap TO x0 y0)
    {h₁ : Heap} (hz₁ : IsZip h₁ z TI TO .ellipsis) (hs₁ : Heap.SameBut z s.heap h₁) :
    wpAny (model X.prog X.w) X.A.in1 (Builtin.SmallTypes.nextOf (.ref a)) (fun v s' => (∃ r gs', ZMid X L a z TI TO i2 g sh nm n items σ i H v r gs' s') ∧ IsZip s'.heap z TI TO .ellipsis ∧ IsPair s'.heap TO x0 y0 ∧ s'.heap.IsListIter i2 l2 i) (fun _ _ => False) { s with heap := h₁ } := by
  have I := St.inv
  obtain ⟨gs, hgs, hgo⟩ := St.goes
  obtain ⟨m, hm⟩ : ∃ m, n - i = m + 1 := ⟨n - i - 1, by omega⟩
  rw [hm] at hgo
  have hgl : g + 1 ≤ s.gens.size := (Array.getElem?_eq_some_iff.mp hgs).1
  have kz : ∀ b o, b ≠ z → s.heap.get? b = some o → h₁.get? b = some o := fun b o hb e => hs₁.extBut _ _ hb e
  have fz := St.fp z (.inr (.inr (.inl rfl)))
  have I1 : Inv X [] σ H { s with heap := h₁ } := I.turnedL (t' := s.toks) (ch := [z]) (fun b o hb e => kz b o (fun q => hb (by simp [q])) e) fun b hb => by
    rw [List.mem_singleton.mp hb]; exact fz
  obtain ⟨oL, hoL, hoc⟩ := St.own
  have aw : Awk X.prog X.w X.base X.stack L sh (startK nm L sh i s.heap) s (({ s with heap := h₁ } : Shared).setGen g .running) := awk_of I1 (fun b hb o eo => by
    rcases hb with q | ⟨q1, q2⟩
    · exact kz b o (fun q' => Nat.ne_of_lt Z.Lz (q.symm.trans q')) eo
    · exact kz b o (St.ks b q1).2.2.2.1 eo) wsh.1
  have hLs : L ≤ ({ s with heap := h₁ } : Shared).heap.objs.size := Nat.le_of_lt (Heap.lt_size (kz L oL (Nat.ne_of_lt Z.Lz) hoL))
  obtain ⟨go, gnm, gqn, hgo1, hgc, hgd, hgsl⟩ := St.gen
  have hgo1' := kz a go Z.az hgo1
  obtain ⟨oi, hoi, hic, hid⟩ := St.it
  have ek : startK nm L sh i h₁ = startK nm L sh i s.heap := by
    cases i with
    | zero => rfl
    | succ k =>
      show ownK nm L h₁ = ownK nm L s.heap
      unfold ownK
      rw [hoL, kz L oL (Nat.ne_of_lt Z.Lz) hoL]
  refine wpAny_gsz (n := g + 1) hgl (nextOf_gen (A := X.A.in1) (I.ok.hd hc) I1.nolimit hd ⟨go, gnm, gqn, hgo1', hgc, hgd, hgsl⟩ hgs (hgo _ aw hLs) (fun v s₁ gs' hbare hv => ?_) fun s₁ hp => ?_)
  · intro hsz
    obtain ⟨i', Hg, r, hi', rfl, hr, Pa, q1, q2, q3, q4, q5, haw, hk⟩ := hv
    obtain rfl : i' = i := by omega
    have Pa : Past X.prog X.w X.stack L sh (startK nm L sh i' h₁) (({ s with heap := h₁ } : Shared).setGen g .running) s₁ Hg := Pa
    rw [ek] at Pa
    have q4 : ∀ b ∈ startK nm L sh i' h₁, ∃ xs, Hg b = some (.lst xs) := q4
    rw [ek] at q4
    have hsl := asleep_of (hk s₁ haw).2
    have hsz1 : g < s₁.gens.size := by
      have q : (s₁.setGen g gs').gens.size = s₁.gens.size := setGen_size _ _ _
      omega
    have rsk : r ∉ startK nm L sh i' s.heap := fun z => by
      obtain ⟨xs, q⟩ := q4 r z
      rw [hr] at q; cases q
    have rnone : h₁.get? r = none := Pa.new r _ hr rsk
    have hrn : H r = none := by
      cases q : H r with
      | none => rfl
      | some o =>
        obtain ⟨ob, z⟩ := objok_ex (I1.hok r o q)
        have z : h₁.get? r = some ob := z
        rw [rnone] at z; cases z
    have yk : ∀ b o, L < b → b ∉ startK nm L sh i' s.heap → h₁.get? b = some o → s₁.heap.get? b = some o := fun b o h1 h2 h3 => Pa.young b o h1 h2 h3
    have ga := yk a go Z.La (fun q => (St.ks a q).2.2.1 rfl) hgo1'
    have gz : IsZip s₁.heap z TI TO .ellipsis := yk z _ Z.Lz (fun q => (St.ks z q).2.2.2.1 rfl) hz₁
    have gTI : IsPair s₁.heap TI (.ref a) (.ref i2) := yk TI _ Z.LTI (fun q => (St.ks TI q).2.2.2.2.1 rfl) (kz TI _ Z.TIz St.pti)
    have gTO : IsPair s₁.heap TO x0 y0 := yk TO _ Z.LTO (fun q => (St.ks TO q).2.2.2.2.2.1 rfl) (kz TO _ Z.TOz hTO)
    have gi2 := yk i2 oi Z.Li2 (fun q => (St.ks i2 q).2.2.2.2.2.2 rfl) (kz i2 oi Z.i2z hoi)
    have rne : ∀ c o, h₁.get? c = some o → r ≠ c := fun c o e q => by rw [q, e] at rnone; cases rnone
    have rL := rne L oL (kz L oL (Nat.ne_of_lt Z.Lz) hoL)
    have rr : r ≠ L ∧ r ≠ a ∧ r ≠ z ∧ r ≠ TI ∧ r ≠ TO ∧ r ≠ i2 := ⟨rL, rne a _ hgo1', rne z _ hz₁, rne TI _ (kz TI _ Z.TIz St.pti), rne TO _ (kz TO _ Z.TOz hTO), rne i2 _ (kz i2 oi Z.i2z hoi)⟩
    have fks : ∀ b, b = L ∨ (b ∈ startK nm L sh i' s.heap ∧ L < b) → FpOk X [] H b := fun b hb => by
      rcases hb with q | ⟨q1, q2⟩
      · rw [q]; exact St.fp L (.inl rfl)
      · exact (St.ks b q1).2.1 q2
    have I4 : Inv X [] σ (upd H r (.tup (items i'))) (s₁.setGen g gs') := Pa.invB I1 rfl rfl hst wsh.1 (fun b hb => (St.ks b hb).1) fks
      (fun b => by
        by_cases z : b = r
        · subst z; exact .inr ⟨hrn, rnone, _, upd_same, hr⟩
        · exact .inl (upd_ne z)) rfl (allBare_setGen Pa.bare hbare) fun _ _ q => q
    -- its own lists
    have ne : ∀ b ∈ ownK nm L s₁.heap, ∀ c o, s₁.heap.get? c = some o → o.cls ≠ .type "list" → b ≠ c := fun b hb c o e1 e2 q => by
      obtain ⟨xs, hl⟩ := q3 b hb
      obtain ⟨_, its, nn, _, ql⟩ := Pa.hok b _ hl
      rw [q, e1] at ql
      cases ql
      exact e2 rfl
    have own : ∀ b ∈ ownK nm L s₁.heap, L < b → FpOk X [] (upd H r (.tup (items i'))) b := fun b hb hlt => by
      obtain ⟨xs, hl⟩ := q3 b hb
      have hbr : b ≠ r := fun z => by rw [z, hr] at hl; cases hl
      by_cases hs : b ∈ startK nm L sh i' s.heap
      · exact FpOk.at ((St.ks b hs).2.1 hlt) (by rw [upd_ne hbr]; exact ((St.ks b hs).2.1 hlt).1)
      · have hn : h₁.get? b = none := Pa.fresh b xs hl hlt hs
        have hge : h₁.objs.size ≤ b := by
          refine Nat.le_of_not_lt fun z => ?_
          have q := Pa.dead.2 b z hn
          obtain ⟨_, its, nn, _, ql⟩ := Pa.hok b _ hl
          rw [q] at ql; cases ql
        refine I1.fpOk hge ?_
        rw [upd_ne hbr]
        exact I1.hok.fresh hge
    refine ⟨⟨r, gs', rfl, hrn, rr, I4, ⟨go, gnm, gqn, ga, hgc, hgd, hgsl⟩, gTI, setGen_at hsz1, hsl, q5 L (.inl rfl), fun b hb => ⟨fun h => q2 b hb h, fun h => ⟨own b hb h, q5 b (.inr ⟨hb, h⟩)⟩, ?_, ?_, ?_, ?_, ?_⟩, fun s2 aw2 => ?_⟩, gz, gTO, ⟨oi, gi2, hic, hid⟩⟩
    · exact ne b hb a go ga (by rw [hgc]; decide)
    · exact ne b hb z _ gz (by show Value.type "zip" ≠ Value.type "list"; decide)
    · exact ne b hb TI _ gTI (by show Value.type "tuple" ≠ Value.type "list"; decide)
    · exact ne b hb TO _ gTO (by show Value.type "tuple" ≠ Value.type "list"; decide)
    · exact ne b hb i2 oi gi2 (by rw [hic]; decide)
    · have ew : n - (i' + 1) = m := by omega
      rw [ew]
      exact (hk s2 ⟨aw2.bare, aw2.own, aw2.shr, aw2.bas, aw2.funs⟩).1
  · intro h' e _ _ _ _
    have hp1 : m + 1 = 0 := hp.1
    cases hp1
end
end Br

namespace Br
open PySem PySem.Spec PyProof.Rows L2 GenW
section
variable {X : Cx} {L a z TI TO i2 l2 D : Addr} {g n i : Nat} {sh : List (Addr × List V)} {nm : List Str} {items : Nat → List V} {ys : List V} {W : Nat → Hp → Prop} {σ : L2.St} {H : Hp} {s : Shared}
/-- at its end -/
theorem zstand_end (hc : X.calm = true) (hd : X.A.depth < recursionLimit) (hst : ∀ b ∈ frs X.stack, b < L) (Z : ZDiff L a z TI TO i2)
    (wsh : ∀ p ∈ sh, H p.1 = some (.lst p.2)) (St : ZStand X L a z TI TO i2 l2 g sh nm n items W σ n H s) {Q : Option Value → Shared → Prop} {E : Value → Shared → Prop} (hQ : ∀ s4, Inv X [] σ H s4 → Q none s4) :
    wpAny (model X.prog X.w) X.A (pyNext (.ref z)) Q E s := by
  have I := St.inv
  refine zipG_end (R := fun s' => Inv X [] σ H s') St.zip St.pti (fun h₁ hz₁ hs₁ => ?_) fun s' h' I' hk => hQ { s' with heap := h' } (I'.turnedL (t' := s'.toks) (ch := [z]) (fun b o hb e => hk b o (fun q => hb (by simp [q])) e) fun b hb => by
    rw [List.mem_singleton.mp hb]; exact St.fp z (.inr (.inr (.inl rfl))))
  obtain ⟨gs, hgs, hgo⟩ := St.goes
  rw [Nat.sub_self] at hgo
  have kz : ∀ b o, b ≠ z → s.heap.get? b = some o → h₁.get? b = some o := fun b o hb e => hs₁.extBut _ _ hb e
  have I1 : Inv X [] σ H { s with heap := h₁ } := I.turnedL (t' := s.toks) (ch := [z]) (fun b o hb e => kz b o (fun q => hb (by simp [q])) e) fun b hb => by
    rw [List.mem_singleton.mp hb]; exact St.fp z (.inr (.inr (.inl rfl)))
  obtain ⟨oL, hoL, hoc⟩ := St.own
  have aw : Awk X.prog X.w X.base X.stack L sh (startK nm L sh n s.heap) s (({ s with heap := h₁ } : Shared).setGen g .running) := awk_of I1 (fun b hb o eo => by
    rcases hb with q | ⟨q1, q2⟩
    · exact kz b o (fun q' => Nat.ne_of_lt Z.Lz (q.symm.trans q')) eo
    · exact kz b o (St.ks b q1).2.2.2.1 eo) wsh
  have hLs : L ≤ ({ s with heap := h₁ } : Shared).heap.objs.size := Nat.le_of_lt (Heap.lt_size (kz L oL (Nat.ne_of_lt Z.Lz) hoL))
  obtain ⟨go, gnm, gqn, hgo1, hgc, hgd, hgsl⟩ := St.gen
  have hgo1' := kz a go Z.az hgo1
  have ek : startK nm L sh n h₁ = startK nm L sh n s.heap := by
    cases n with
    | zero => rfl
    | succ k =>
      show ownK nm L h₁ = ownK nm L s.heap
      unfold ownK
      rw [hoL, kz L oL (Nat.ne_of_lt Z.Lz) hoL]
  refine nextOf_gen (A := X.A.in1) (I.ok.hd hc) I1.nolimit hd ⟨go, gnm, gqn, hgo1', hgc, hgd, hgsl⟩ hgs (hgo _ aw hLs) (fun v s₁ gs' hbare hv => ?_) fun s₁ hp h' e hk he hle => ?_
  · obtain ⟨_, _, _, _, _, _, _, _, _, _, _, _, haw, hk⟩ := hv
    exact (hk s₁ haw).1.elim
  · obtain ⟨_, Hg, Pa⟩ := hp
    have Pa : Past X.prog X.w X.stack L sh (startK nm L sh n h₁) (({ s with heap := h₁ } : Shared).setGen g .running) s₁ Hg := Pa
    rw [ek] at Pa
    have gz : IsZip s₁.heap z TI TO .ellipsis := Pa.young z _ Z.Lz (fun q => (St.ks z q).2.2.2.1 rfl) hz₁
    refine ⟨e, rfl, fun q => ?_, he, ?_, hk _ _ gz⟩
    · rw [q] at hle
      exact absurd (Heap.lt_size gz) (Nat.not_lt.mpr hle)
    · exact Pa.invB I1 rfl rfl hst wsh (fun b hb => (St.ks b hb).1) (fun b hb => by
        rcases hb with q | ⟨q1, q2⟩
        · rw [q]; exact St.fp L (.inl rfl)
        · exact (St.ks b q1).2.1 q2) (fun _ => .inl rfl) rfl (allBare_setGen Pa.bare rfl) hk
/-- a turn -/
theorem zstand_item {σ0 : L2.St} {vs : List Nat} {elts : List Expr} {kk : Nat} {tpos : Pos} {ifs : List Expr} {elt : Expr} {tgg : TG} {tt : TT} {te : TE} (hσ : σ = wipe σ0 vs) (hc : X.calm = true) (hx : ∀ u s, ¬ X.xe u s) (hd : X.A.depth < recursionLimit) (hst : ∀ b ∈ frs X.stack, b < L) (Z : ZDiff L a z TI TO i2)
    (hl : ys.length = n) (wsh : ∀ i H', i ≤ n → W i H' → (∀ p ∈ sh, H' p.1 = some (.lst p.2)) ∧ H' l2 = some (.lst ys))
    (htg : PG X (.Tuple elts kk tpos) tgg) (hts : PTs X ifs tt) (hel : PE X elt te)
    (wt : ∀ i H', i < n → W i H' → ∀ r T y, ys[i]? = some y → H' r = none → T ≠ r → H' T = none → tgg (.ref T) σ (upd (upd H' r (.tup (items i))) T (.tup [.ref r, y])) fun σ2 H2 => wipe σ2 vs = σ ∧ tt σ2 H2 fun b H3 =>
      if b = true then te σ2 H3 fun x H4 => ∃ acc, H4 D = some (.lst acc) ∧ acc.length < sizeLine ∧ W (i + 1) (upd H4 D (.lst (acc ++ [x]))) else W (i + 1) H3)
    (hi : i < n) (St : ZStand X L a z TI TO i2 l2 g sh nm n items W σ i H s) {Q : Option Value → Shared → Prop} {E : Value → Shared → Prop}
    (hQ : ∀ T s4, wpAny (model X.prog X.w) X.A (letOwnedTupleGo (.Tuple elts kk tpos) (.ref z) (.ref T)) (fun _ s5 => wpAny (model X.prog X.w) X.A (assign (.Tuple elts kk tpos) X.env (.ref T)) (fun _ s6 =>
      wpAny (model X.prog X.w) X.A (forIn ifs true fun c r => if r = true then do let ok ← isTrue c X.env (eval c X.env); pure (ForInStep.yield ok) else pure (ForInStep.yield r)) (fun ok s7 =>
        if ok = true then wpAny (model X.prog X.w) X.A (eval elt X.env) (fun x s8 => wpAny (model X.prog X.w) X.A (call (.builtin "list.append") [.ref D, x]) (fun _ s9 => ∃ H', ZStand X L a z TI TO i2 l2 g sh nm n items W σ (i + 1) H' s9) (fun _ _ => False) s8) (fun _ _ => False) s7
        else ∃ H', ZStand X L a z TI TO i2 l2 g sh nm n items W σ (i + 1) H' s7) (fun _ _ => False) s6) (fun _ _ => False) s5) (fun _ _ => False) s4 → Q (some (.ref T)) s4) :
    wpAny (model X.prog X.w) X.A (pyNext (.ref z)) Q E s := by
  have I := St.inv
  obtain ⟨x0, y0, hTO⟩ := St.pto
  obtain ⟨w1, w2⟩ := wsh i H (Nat.le_of_lt hi) St.w
  obtain ⟨y, hy⟩ : ∃ y, ys[i]? = some y := ⟨_, List.getElem?_eq_getElem (show i < ys.length by omega)⟩
  have l2n : ∀ b, H b = none → l2 ≠ b := fun b hb q => by rw [q, hb] at w2; cases w2
  have nz : ∀ b, b = L ∨ b = a ∨ b = z ∨ b = TI ∨ b = TO ∨ b = i2 → H b = none := fun b hb => (St.fp b hb).1
  refine zipG_item (k2 := i) (p := x0) (q := y0) (l2 := l2) (R := fun v u s' => RelV y u ∧ (∃ r gs', ZMid X L a z TI TO i2 g sh nm n items σ i H v r gs' s') ∧ (∃ o, s'.heap.get? z = some o) ∧ (∃ o, s'.heap.get? TO = some o) ∧ ∃ o, s'.heap.get? i2 = some o) Z.TOz Z.i2z Z.TOi2 (l2n TO (nz TO (by simp))) St.zip St.pti (fun h₁ hz₁ hs₁ => ?_) fun v u s1 h' hR hz' hTO' h2' hT' hsz' hk' => ?_
  · refine wpAny_mono (zstand_next hc hd hst Z ⟨w1, w2⟩ hi St hTO hz₁ hs₁) (fun v s' ⟨hm, q1, q2, q3⟩ => ?_) fun _ _ f => f
    obtain ⟨r, gs', M⟩ := hm
    have hr2 : l2 ≠ r := l2n r M.rn
    obtain ⟨_, its, nn, rv, el⟩ := M.inv.hok l2 _ (show (upd H r (.tup (items i))) l2 = some (.lst ys) by rw [upd_ne hr2]; exact w2)
    obtain ⟨u, hu, ru⟩ := rv.get hy
    obtain ⟨oi, hoi, hi1, hi2⟩ := id q3
    exact ⟨its.toArray, u, ⟨ru, ⟨r, gs', M⟩, ⟨_, q1⟩, ⟨_, q2⟩, ⟨_, hoi⟩⟩, q1, q2, q3, ⟨_, el, rfl, _, rfl⟩, by simpa using hu⟩
  obtain ⟨ru, ⟨r, gs', M⟩, ⟨oz, hoz⟩, ⟨oT, hoT⟩, ⟨oi, hoi⟩⟩ := hR
  obtain ⟨ev, hrn, ⟨rL, ra, rz, rTI, rTO, ri2⟩, I4, hgen, hpti, hg4, hsl, ⟨oL, hoL, hLc⟩, hks, hgo⟩ := M
  subst ev
  obtain ⟨go, gnm, gqn, hgo1, hgc, hgd, hgsl⟩ := hgen
  have rne : ∀ b, (b = L ∨ b = a ∨ b = z ∨ b = TI ∨ b = TO ∨ b = i2) → b ≠ r := fun b hb q => by
    rcases hb with h | h | h | h | h | h
    · exact rL (q.symm.trans h)
    · exact ra (q.symm.trans h)
    · exact rz (q.symm.trans h)
    · exact rTI (q.symm.trans h)
    · exact rTO (q.symm.trans h)
    · exact ri2 (q.symm.trans h)
  have f4 : ∀ b, (b = L ∨ b = a ∨ b = z ∨ b = TI ∨ b = TO ∨ b = i2) → FpOk X [] (upd H r (.tup (items i))) b := fun b hb => FpOk.at (St.fp b hb) (by rw [upd_ne (rne b hb)]; exact nz b hb)
  have hTn : (upd H r (.tup (items i))) s1.heap.objs.size = none := I4.hok.fresh (Nat.le_refl _)
  have hTr : s1.heap.objs.size ≠ r := fun q => by
    rw [q, upd_same] at hTn; cases hTn
  have I5 : Inv X [] σ (upd (upd H r (.tup (items i))) s1.heap.objs.size (.tup [.ref r, y])) { s1 with heap := h' } := I4.turnedNew (t' := s1.toks) (ch := [z, TO, i2]) (fun b o hb e => hk' b o (fun q => hb (by simp [q])) (fun q => hb (by simp [q])) (fun q => hb (by simp [q])) e)
    (fun b hb => f4 b (by simp at hb; rcases hb with h | h | h <;> simp [h])) (Nat.le_refl _) ⟨by show 2 ≤ sizeLine; decide, [.ref r, u], .cons rfl (.cons ru .nil), ⟨_, hT', rfl, _, rfl⟩⟩
  have lt5 : ∀ c o, s1.heap.get? c = some o → c ≠ s1.heap.objs.size := fun c o e q => Nat.lt_irrefl _ (Nat.lt_of_lt_of_eq (Heap.lt_size e) q.symm)
  generalize s1.heap.objs.size = T at hTn hTr I5 hz' hT' hsz' lt5 ⊢
  have hTn0 : H T = none := by rw [upd_ne hTr] at hTn; exact hTn
  have hwt := wt i H hi St.w r T y hy hrn hTr hTn0
  have nT : ∀ b, b ≠ T → (upd H r (.tup (items i))) b = none → (upd (upd H r (.tup (items i))) T (.tup [.ref r, y])) b = none := fun b h1 h2 => (upd_ne h1).trans h2
  generalize hH5 : upd (upd H r (.tup (items i))) T (.tup [.ref r, y]) = H5 at I5 hwt nT
  have ex6 : ∀ b, (b = L ∨ b = a ∨ b = z ∨ b = TI ∨ b = TO ∨ b = i2) → ∃ o, s1.heap.get? b = some o := fun b hb => by
    rcases hb with h | h | h | h | h | h
    · exact ⟨_, h ▸ hoL⟩
    · exact ⟨_, h ▸ hgo1⟩
    · exact ⟨_, h ▸ hoz⟩
    · exact ⟨_, h ▸ hpti⟩
    · exact ⟨_, h ▸ hoT⟩
    · exact ⟨_, h ▸ hoi⟩
  have f5 : ∀ b, (b = L ∨ b = a ∨ b = z ∨ b = TI ∨ b = TO ∨ b = i2) → FpOk X [] H5 b := fun b hb => by
    obtain ⟨o, e⟩ := ex6 b hb
    exact FpOk.at (f4 b hb) (nT b (lt5 b o e) (f4 b hb).1)
  -- the tuple goes
  refine hQ T _ (wpAny_letOwnedTupleGo_zip (s := { s1 with heap := h' }) hz' fun h'' z'' sb => ?_)
  have k5 : ∀ b o, b ≠ z → b ≠ TO → b ≠ i2 → s1.heap.get? b = some o → h''.get? b = some o := fun b o c1 c2 c3 e => sb.extBut _ _ c1 (hk' b o c1 c2 c3 e)
  have I6 : Inv X [] σ H5 { s1 with heap := h'' } := Inv.turnedL (s := { s1 with heap := h' }) I5 (t' := s1.toks) (ch := [z]) (fun b o hb e => sb.extBut _ _ (fun q => hb (by simp [q])) e) fun b hb => by
    rw [List.mem_singleton.mp hb]; exact f5 z (.inr (.inr (.inl rfl)))
  have kL : h''.get? L = some oL := k5 L oL (Nat.ne_of_lt Z.Lz) (Nat.ne_of_lt Z.LTO) (Nat.ne_of_lt Z.Li2) hoL
  have eo : ownK nm L h'' = ownK nm L s1.heap := ownK_same (kL.trans hoL.symm)
  have h2'' : h''.IsListIter i2 l2 (i + 1) := h2'.at fun o e => sb.extBut _ _ Z.i2z e
  obtain ⟨oj, hoj, hj1, hj2⟩ := id h2''
  have gTI'' : IsPair h'' TI (.ref a) (.ref i2) := k5 TI _ Z.TIz Z.TITO Z.TIi2 hpti
  have gTO'' : IsPair h'' TO (.ref r) u := sb.extBut _ _ Z.TOz hTO'
  have ga'' : h''.get? a = some go := k5 a go Z.az (Ne.symm Z.TOa) Z.ai2 hgo1
  have hfp : ∀ b ∈ fpZ nm L a z TI TO i2 h'', FpOk X [] H5 b := fun b hb => by
    rcases mem_fpZ.mp hb with h | ⟨h, hlt⟩
    · exact f5 b h
    · rw [eo] at h
      obtain ⟨_, q2, _⟩ := hks b h
      obtain ⟨f, o, e, _⟩ := q2 hlt
      exact FpOk.at f (nT b (lt5 b o e) f.1)
  have hfo : ∀ b ∈ fpZ nm L a z TI TO i2 h'', ∃ o, h''.get? b = some o ∧ ∀ v, o.data ≠ .cell v := fun b hb => by
    rcases mem_fpZ.mp hb with (h | h | h | h | h | h) | ⟨h, hlt⟩
    · exact ⟨oL, h ▸ kL, hLc⟩
    · exact ⟨go, h ▸ ga'', fun v q => by rw [hgd] at q; cases q⟩
    · exact ⟨_, h ▸ z'', fun v q => by cases q⟩
    · exact ⟨_, h ▸ gTI'', fun v q => by cases q⟩
    · exact ⟨_, h ▸ gTO'', fun v q => by cases q⟩
    · exact ⟨oj, h ▸ hoj, fun v q => by rw [hj2] at q; cases q⟩
    · rw [eo] at h
      obtain ⟨_, q2, q3, q4, q5, q6, q7⟩ := hks b h
      obtain ⟨f, o, e, hc⟩ := q2 hlt
      exact ⟨o, k5 b o q4 q6 q7 e, hc⟩
  have I7 := I6.pinned hfp hfo
  have fin : ∀ {s9 : Shared} {σ8 : L2.St} {H9 : Hp}, Inv X ([] ++ pinsAt (fpZ nm L a z TI TO i2 h'') ({ s1 with heap := h'' } : Shared).heap) σ8 H9 s9 → s9.gens[g]? = some gs' → wipe σ8 vs = σ → W (i + 1) H9 → ∃ H', ZStand X L a z TI TO i2 l2 g sh nm n items W σ (i + 1) H' s9 := fun {s9 σ8 H9} I9 g9 hw8 w9 => by
    have pin' : ∀ b ∈ fpZ nm L a z TI TO i2 h'', ∀ o, h''.get? b = some o → s9.heap.get? b = some o ∧ H9 b = none := fun b hb o e =>
      let q := I9.pin (b, o) (List.mem_append_right _ (List.mem_append_right _ (mem_pinsAt hb e)))
      ⟨q.1, q.2.1⟩
    have m6 : ∀ b, (b = L ∨ b = a ∨ b = z ∨ b = TI ∨ b = TO ∨ b = i2) → b ∈ fpZ nm L a z TI TO i2 h'' := fun b hb => mem_fpZ.mpr (.inl hb)
    have pL := pin' L (m6 L (.inl rfl)) oL kL
    have eo9 : ownK nm L s9.heap = ownK nm L s1.heap := (ownK_same (pL.1.trans kL.symm)).trans eo
    have hl : σ.length = σ8.length := by rw [← hw8, wipe_length]
    refine ⟨H9, (I9.unpinned (pins := [])).weak hl (fun j v e => by rw [← hw8] at e; exact (wipe_some e).1), w9, ⟨go, gnm, gqn, (pin' a (m6 a (by simp)) go ga'').1, hgc, hgd, hgsl⟩, (pin' z (m6 z (by simp)) _ z'').1, (pin' TI (m6 TI (by simp)) _ gTI'').1, ⟨_, _, (pin' TO (m6 TO (by simp)) _ gTO'').1⟩, ⟨oj, (pin' i2 (m6 i2 (by simp)) oj hoj).1, hj1, hj2⟩, ⟨oL, pL.1, hLc⟩, ⟨gs', g9, fun s2 aw _ => ?_⟩, fun b hb => ?_, fun b hb => ?_⟩
    · have aw : Awk X.prog X.w X.base X.stack L sh (ownK nm L s9.heap) s9 s2 := aw
      rw [eo9] at aw
      refine hgo s2 ⟨aw.bare, fun b hb o e => aw.own b hb o ?_, aw.shr, aw.bas, aw.funs⟩
      rcases hb with q | ⟨q1, q2⟩
      · subst q
        rw [hoL] at e; cases e
        exact pL.1
      · obtain ⟨_, _, q3, q4, q5, q6, q7⟩ := hks b q1
        exact (pin' b (mem_fpZ.mpr (.inr ⟨by rw [eo]; exact q1, q2⟩)) o (k5 b o q4 q6 q7 e)).1
    · obtain ⟨o, e, _⟩ := hfo b (m6 b hb)
      exact FpOk.at (f5 b hb) (pin' b (m6 b hb) o e).2
    · have hb : b ∈ ownK nm L s9.heap := hb
      rw [eo9] at hb
      obtain ⟨q1, q2, q3⟩ := hks b hb
      refine ⟨q1, fun hlt => ?_, q3⟩
      have hm : b ∈ fpZ nm L a z TI TO i2 h'' := mem_fpZ.mpr (.inr ⟨by rw [eo]; exact hb, hlt⟩)
      obtain ⟨o, e, _⟩ := hfo b hm
      exact FpOk.at (hfp b hm) (pin' b hm o e).2
  refine wpAny_mono (wk_run I7 hg4 hsl hx fun zz Iz => htg.run _ zz σ _ (.ref T) (.ref T) _ Iz rfl hwt) (fun _ s6 hq => ?_) fun _ _ f => f
  obtain ⟨z6, ⟨σ8, H8, I8, hw8, q8⟩, g6, b6⟩ := hq
  refine wpAny_mono (wk_run (b6 I8) g6 hsl hx fun zz Iz => hts.run _ zz σ8 H8 _ Iz q8) (fun b s7 hq => ?_) fun _ _ f => f
  obtain ⟨z7, ⟨H9, I9, q9⟩, g7, b7⟩ := hq
  cases b with
  | false =>
    simp only [Bool.false_eq_true, if_false] at q9 ⊢
    exact fin (b7 I9) g7 hw8 q9
  | true =>
    simp only [if_true] at q9 ⊢
    refine wpAny_mono (wk_run (b7 I9) g7 hsl hx fun zz Iz => hel.run _ zz σ8 H9 _ Iz q9) (fun x s8 hq => ?_) fun _ _ f => f
    obtain ⟨z8, ⟨xv, H10, I10, r10, acc, hD10, hz10, nx⟩, g8, b8⟩ := hq
    refine wpAny_mono (wk_run (Q := fun _ s' => Inv X ([] ++ pinsAt (fpZ nm L a z TI TO i2 h'') ({ s1 with heap := h'' } : Shared).heap) σ8 (upd H10 D (.lst (acc ++ [xv]))) s') (b8 I10) g8 hsl (E := fun _ _ => False) (fun _ _ f => f) fun zz Iz => app_ok Iz hD10 hz10 r10 fun s' I' => I') (fun _ s9 hq => ?_) fun _ _ f => f
    obtain ⟨z9, I11, g9, b9⟩ := hq
    exact fin (b9 I11) g9 hw8 nx
end
end Br

namespace Br
open PySem PySem.Spec PyProof.Rows L2 GenW
/-- a name of the frame, read -/
theorem var_at {X : Cx} {i : Nat} {x : Str} {pos : Pos} {pins : List (Addr × Obj)} {s : Shared} {σ : L2.St} {H : Hp} {Q : Value → Shared → Prop} {E : Value → Shared → Prop} {v : V} (I : Inv X pins σ H s) (hN : X.N[i]? = some x) (hv : Vis X.env.scope x) (e : σ[i]? = some (some v)) (hd : (x == ("__debug__" : Str)) = false) (hcd : (x == ("__classdict__" : Str)) = false)
    (h : ∀ u, RelV v u → Q u s) : wpAny (model X.prog X.w) X.A (eval (.Name x pos) X.env) Q E s := by
  obtain ⟨m, hn, hl⟩ := I.loc
  obtain ⟨u, r, l⟩ := hl i x v hN e hv
  have fin := h u r
  rcases l with ⟨hk, hm⟩ | ⟨hk, c, hc, hcell⟩
  · exact wpAny_Name (wpAny_loadName_local I.ok.kind hk hn hm fin) hd
  · rcases hk with hk | hk
    · exact wpAny_Name (wpAny_loadName_cell I.ok.kind hk hc hcell fin) hd
    · exact wpAny_Name (wpAny_loadName_free I.ok.kind hk hc hcell fin hcd) hd
abbrev zg1 (h : Heap) (l2 : Addr) : Heap := h.push { cls := .type "list_iterator", data := .fields #[.ref l2, .int 0 0] }
abbrev zg2 (h : Heap) (a l2 : Addr) : Heap := (zg1 h l2).push { cls := .type "tuple", data := .seq #[.ref a, .ref h.objs.size] }
abbrev zg3 (h : Heap) (a l2 : Addr) : Heap := (zg2 h a l2).push { cls := .type "tuple", data := .seq #[.none, .none] }
abbrev zg4 (h : Heap) (a l2 : Addr) : Heap := (zg3 h a l2).push { cls := .type "zip", data := .fields #[.none, .bool false, .bool false, .ref (zg1 h l2).objs.size, .ref (zg2 h a l2).objs.size] }
theorem meets_zipG_new (a : Addr) (g : Nat) (l2 : Addr) (ys : Array Value) :
    Meets (Builtin.«zip.__new__» ⟨[.type "zip", .ref a, .ref l2], []⟩) (fun _ R s => s.heap.IsGen a g ∧ s.heap.IsList l2 ys ∧
      R (.ok (.ret (.ref (zg3 s.heap a l2).objs.size))) { s with heap := zg4 s.heap a l2 }) :=
  .of_wp fun prog w A R s h => by
    obtain ⟨hp, g', d, tk, os⟩ := s; obtain ⟨hl1, hl2, h⟩ := h
    have hsub := sub_zip
    have hL1 : Heap.IsGen (Shared.heap ⟨hp, g', d, tk, os⟩) a g := hl1
    have hL2 : Heap.IsList (Shared.heap ⟨hp, g', d, tk, os⟩) l2 ys := hl2
    wp_walk using wpAny_pyIter_gen hL1, wpAny_pyIter_list hL2
    exact ⟨_, rfl, h⟩
theorem call_zipG {prog : Program} {w : World} {A : Around} {E : Value → Shared → Prop} {s : Shared} {a l2 : Addr} {g : Nat} {ys : Array Value} {Q : Value → Shared → Prop} (hl1 : s.heap.IsGen a g) (hl2 : s.heap.IsList l2 ys)
    (h : ∀ h', IsZip h' (s.heap.objs.size + 3) (s.heap.objs.size + 1) (s.heap.objs.size + 2) .none → IsPair h' (s.heap.objs.size + 1) (.ref a) (.ref s.heap.objs.size) →
      IsPair h' (s.heap.objs.size + 2) .none .none → h'.IsListIter s.heap.objs.size l2 0 → h'.objs.size = s.heap.objs.size + 4 →
      (∀ c o, s.heap.get? c = some o → h'.get? c = some o) → Q (.ref (s.heap.objs.size + 3)) { s with heap := h' }) :
    wpAny (model prog w) A (call (.type "zip") [.ref a, .ref l2]) Q E s := by
  refine callType_new F.called_zip (by decide) (F.typeCall_zip_2 _ _) (F.newCall_zip_2 _ _) (fun obj => F.args_object_init_3 obj _ _) F.entry_zip_new
    (meets_zipG_new a g l2 ys) ⟨hl1, hl2, ?_⟩
  have z1 : (zg1 s.heap l2).objs.size = s.heap.objs.size + 1 := Heap.size_push ..
  have z2 : (zg2 s.heap a l2).objs.size = s.heap.objs.size + 2 := by rw [Heap.size_push, z1]
  have z3 : (zg3 s.heap a l2).objs.size = s.heap.objs.size + 3 := by rw [Heap.size_push, z2]
  have z4 : (zg4 s.heap a l2).objs.size = s.heap.objs.size + 4 := by rw [Heap.size_push, z3]
  have g4 : (zg4 s.heap a l2).get? (zg3 s.heap a l2).objs.size = some _ := Heap.get?_push_size _ rfl
  have g3 : (zg4 s.heap a l2).get? (zg2 s.heap a l2).objs.size = some _ := Heap.get?_push_of_some _ (Heap.get?_push_size _ rfl)
  have g2 : (zg4 s.heap a l2).get? (zg1 s.heap l2).objs.size = some _ := Heap.get?_push_of_some _ (Heap.get?_push_of_some _ (Heap.get?_push_size _ rfl))
  have g1 : (zg4 s.heap a l2).get? s.heap.objs.size = some _ := Heap.get?_push_of_some _ (Heap.get?_push_of_some _ (Heap.get?_push_of_some _ (Heap.get?_push_size _ rfl)))
  show _ ∧ _
  rw [z1, z2, z3] at g4
  rw [z1] at g2
  rw [z2] at g3
  rw [z3]
  exact ⟨⟨_, g4, rfl⟩, h _ g4 g2 g3 ⟨_, g1, rfl, rfl⟩ z4 fun c o x =>
    Heap.get?_push_of_some _ (Heap.get?_push_of_some _ (Heap.get?_push_of_some _ (Heap.get?_push_of_some _ x)))⟩
theorem zdiff_mk {L a i2 : Nat} (h1 : L < a) (h2 : a < i2) : ZDiff L a (i2 + 3) (i2 + 1) (i2 + 2) i2 := by
  have h3 := Nat.lt_trans h1 h2
  have ne : ∀ {x y : Nat}, x < y → x ≠ y := fun h => Nat.ne_of_lt h
  exact ⟨h1, Nat.lt_of_lt_of_le h3 (Nat.le_add_right _ _), Nat.lt_of_lt_of_le h3 (Nat.le_add_right _ _), Nat.lt_of_lt_of_le h3 (Nat.le_add_right _ _), h3,
    ne (show i2 + 1 < i2 + 3 by omega), ne (show i2 + 2 < i2 + 3 by omega), ne (show a < i2 + 3 by omega), ne (show i2 < i2 + 3 by omega), ne (show i2 + 1 < i2 + 2 by omega), Ne.symm (ne (show i2 < i2 + 1 by omega)), Ne.symm (ne (show a < i2 + 2 by omega)), Ne.symm (ne (show i2 < i2 + 2 by omega)), ne h2⟩
/-- [elt for a, b in zip(f(..), ys) if ..], f a generator def -/
def tLcZ (spec : SpG4) (ta : TA) (j : Nat) (g : TG) (tt : TT) (te : TE) (vs : List Nat) : TE := fun σ H Q => ta σ H fun vs1 H1 => ∃ sh n items, spec vs1 H1 sh n items ∧ (∀ p ∈ sh, H1 p.1 = some (.lst p.2)) ∧ ∃ (l2 : Addr) (ys : List V), σ[j]? = some (some (.ref l2)) ∧ H1 l2 = some (.lst ys) ∧ ys.length = n ∧
  ∀ D, H1 D = none → ∃ W : Nat → Hp → Prop, W 0 (upd H1 D (.lst [])) ∧ (∀ i H', i ≤ n → W i H' → (∀ p ∈ sh, H' p.1 = some (.lst p.2)) ∧ H' l2 = some (.lst ys)) ∧
    (∀ i H', i < n → W i H' → ∀ r T y, ys[i]? = some y → H' r = none → T ≠ r → H' T = none → g (.ref T) (wipe σ vs) (upd (upd H' r (.tup (items i))) T (.tup [.ref r, y])) fun σ2 H2 => wipe σ2 vs = wipe σ vs ∧ tt σ2 H2 fun b H3 =>
      if b = true then te σ2 H3 fun x H4 => ∃ acc, H4 D = some (.lst acc) ∧ acc.length < sizeLine ∧ W (i + 1) (upd H4 D (.lst (acc ++ [x]))) else W (i + 1) H3) ∧ ∀ H', W n H' → Q (.ref D) H'
theorem pe_lcZ {X : Cx} {k : Nat} {f : Addr} {fd : FuncData} {ps : List Str} {spec : SpG4} {x y : Str} {p cpos zp yp zpos pos tpos : Pos} {e1 elt : Expr} {es elts ifs : List Expr} {kk j : Nat} {ta : TA} {g : TG} {tt : TT} {te : TE} {scope : Scope} {own : List (Str × Nat)}
    (G : GenOk X.prog X.w X.K X.mg X.base k f fd ps spec) (hr : Room (k + 4) X.A) (hg : Gl X x) (hm : X.mg x = some (.ref f)) (hk : PySem.W.keepIn X.K (.ref f) = true) (hb : Binds X.K fd ps []) (ha : PA X (e1 :: es) ta)
    (hgz : Gl X "zip") (hmz : X.mg "zip" = none) (hNj : X.N[j]? = some y) (hv : Vis X.env.scope y) (hc : X.calm = true) (hN : X.N.Nodup) (ok : BlkOk X.N X.env.scope scope own)
    (hgt : ∀ (s : Shared) (H : Hp) (C : Addr) (cl : List (Str × Addr)) (fp : List Addr), PG (X.blk s H scope (compEnvC scope cl C X.env) fp) (.Tuple elts kk tpos) g) (ht : ∀ (s : Shared) (H : Hp) (C : Addr) (cl : List (Str × Addr)) (fp : List Addr), PTs (X.blk s H scope (compEnvC scope cl C X.env) fp) ifs tt)
    (he : ∀ (s : Shared) (H : Hp) (C : Addr) (cl : List (Str × Addr)) (fp : List Addr), PE (X.blk s H scope (compEnvC scope cl C X.env) fp) elt te)
    (hdb : (x == ("__debug__" : Str)) = false := by decide) (hse : starEach (e1 :: es) X.env = (false, eval e1 X.env) :: starEach es X.env := by rfl) (hpl : (backTo cpos (starEach es X.env)).any (·.1) = false := by rfl)
    (hyd : (y == ("__debug__" : Str)) = false := by decide) (hyc : (y == ("__classdict__" : Str)) = false := by decide)
    (hs : ∀ v, foldedSetIterable (.Call (.Name "zip" zp) [.Call (.Name x p) (e1 :: es) [] cpos, .Name y yp] [] zpos) X.env v = pure v := by intro _; rfl) :
    PE X (.ListComp elt [⟨.Tuple elts kk tpos, .Call (.Name "zip" zp) [.Call (.Name x p) (e1 :: es) [] cpos, .Name y yp] [] zpos, ifs, 0⟩] scope pos) (tLcZ spec ta j g tt te (own.map (·.2))) := by
  obtain ⟨G, eG⟩ := G
  subst eG
  refine ⟨fun pins s σ H Q I h => ?_⟩
  rw [eval_ListComp]
  have hfree : ∀ y ∈ scope.names, y.2 = .free → ∃ c, X.env.cells.lookup y.1 = some c := fun y hy e => by
    rcases ok.free y hy e with k | k
    · exact I.ok.has _ (.inl k)
    · exact I.ok.has _ (.inr k)
  refine wpAny_comprehension_free rfl hs (closure_ok hfree) ok.kind (fun y hy e => by rw [ok.uniq y hy, e]) ?_
  refine Call_ (ld_blt I hgz hmz PyProof.Rows.boot_zip (PyProof.Rows.callWith_type1 ?_ rfl rfl))
  show wpAny _ _ (spliced ((false, eval _ X.env) :: backTo zpos (starEach [_] X.env))) _ _ s
  refine Calls.spliced_cons (eval_gen G hr hg hm hk hb ha hdb hse hpl I h fun sg L a gg sh n items H1 Ig fL fa GM hn hsh q => ?_)
  obtain ⟨l2, ys, ej, hl2, hly, q⟩ := q
  show wpAny _ _ (spliced ((false, eval _ X.env) :: backTo zpos (starEach [] X.env))) _ _ sg
  refine Calls.spliced_cons (var_at Ig hNj hv ej hyd hyc fun u ru => Calls.spliced_nil ?_)
  cases ru
  obtain ⟨_, its, nn, rv, el⟩ := Ig.hok l2 _ hl2
  refine call_zipG GM.gen ⟨_, el, rfl, _, rfl⟩ fun h' hz hTI hTO h2 hsz hk' => wpAny_pyIter_zip hz ?_
  have I2 : Inv X pins σ H1 { sg with heap := h' } := Ig.kept (t' := sg.toks) hk'
  have la : a < sg.heap.objs.size := by obtain ⟨o, _, _, e, _⟩ := GM.gen; exact Heap.lt_size e
  have Ll : L < sg.heap.objs.size := Nat.lt_trans GM.lt la
  generalize hzz : sg.heap.objs.size + 3 = z at hz
  generalize hti : sg.heap.objs.size + 1 = TI at hz hTI
  generalize hto : sg.heap.objs.size + 2 = TO at hz hTO
  generalize hi2 : sg.heap.objs.size = i2 at hTI h2 hsz hzz hti hto la Ll
  have Z : ZDiff L a z TI TO i2 := by
    have h := zdiff_mk GM.lt la
    rw [hzz, hti, hto] at h
    exact h
  generalize hs2 : ({ sg with heap := h' } : Shared) = s2 at I2
  have hh2 : s2.heap = h' := by rw [← hs2]
  have hg2 : s2.gens = sg.gens := by rw [← hs2]
  have f2 : ∀ b ∈ [L, a, z, TI, TO, i2], FpOk X pins H1 b ∧ b < s2.heap.objs.size := fun b hb => by
    have hge : ∀ c, i2 ≤ c → FpOk X pins H1 c := fun c hc => Ig.fpOk (by rw [hi2]; exact hc) (Ig.hok.fresh (by rw [hi2]; exact hc))
    rw [hh2, hsz]
    simp only [List.mem_cons, List.not_mem_nil, or_false] at hb
    rcases hb with h | h | h | h | h | h
    · rw [h]; exact ⟨fL, Nat.lt_of_lt_of_le Ll (Nat.le_add_right _ _)⟩
    · rw [h]; exact ⟨fa, Nat.lt_of_lt_of_le la (Nat.le_add_right _ _)⟩
    · rw [h, ← hzz]; exact ⟨hge _ (Nat.le_add_right _ _), Nat.lt_succ_self _⟩
    · rw [h, ← hti]; exact ⟨hge _ (Nat.le_add_right _ _), show i2 + 1 < i2 + 4 by omega⟩
    · rw [h, ← hto]; exact ⟨hge _ (Nat.le_add_right _ _), show i2 + 2 < i2 + 4 by omega⟩
    · rw [h]; exact ⟨hge _ (Nat.le_refl _), show i2 < i2 + 4 by omega⟩
  refine wpAny_newObj_type (newEnv_comp ?_) (by show 0 ≤ sizeLine; decide)
  generalize hD : s2.heap.objs.size = D
  have hDn : H1 D = none := I2.hok.fresh (Nat.le_of_eq hD)
  obtain ⟨W, w0, wsh, wt, wd⟩ := q D hDn
  generalize hs3 : ({ s2 with heap := s2.heap.push { cls := .type "list", data := .seq ([] : List Value).toArray } } : Shared) = s3
  have I3 : Inv X pins σ (upd H1 D (.lst [])) s3 := by
    rw [← hs3]
    refine I2.laid (t' := s2.toks) (fun b o e => Heap.get?_push_of_some _ e) (Nat.le_of_eq hD) ⟨Nat.zero_le _, [], 0, .nil, ?_⟩
    rw [← hD]
    exact Heap.get?_push_size _ rfl
  have h3 : s3.heap = s2.heap.push { cls := .type "list", data := .seq ([] : List Value).toArray } := by rw [← hs3]
  have hg3 : s3.gens = sg.gens := by rw [← hs3]; exact hg2
  have kp3 : ∀ b o, s2.heap.get? b = some o → s3.heap.get? b = some o := fun b o e => by rw [h3]; exact Heap.get?_push_of_some _ e
  have f3 : ∀ b ∈ [L, a, z, TI, TO, i2], FpOk X pins (upd H1 D (.lst [])) b ∧ b < s3.heap.objs.size := fun b hb => by
    obtain ⟨q1, hlt⟩ := f2 b hb
    refine ⟨FpOk.at q1 ?_, by rw [h3, Heap.size_push]; exact Nat.lt_succ_of_lt hlt⟩
    rw [upd_ne (by rw [← hD]; exact Nat.ne_of_lt hlt)]
    exact q1.1
  have I4 := block_start I3 ok hN f3
  have pg := hgt s3 (upd H1 D (.lst [])) s3.heap.objs.size (cellsFrom (s3.heap.objs.size + 1) scope.names (cloFrom X.env.cells scope.names [])) [L, a, z, TI, TO, i2]
  have pt := ht s3 (upd H1 D (.lst [])) s3.heap.objs.size (cellsFrom (s3.heap.objs.size + 1) scope.names (cloFrom X.env.cells scope.names [])) [L, a, z, TI, TO, i2]
  have pe := he s3 (upd H1 D (.lst [])) s3.heap.objs.size (cellsFrom (s3.heap.objs.size + 1) scope.names (cloFrom X.env.cells scope.names [])) [L, a, z, TI, TO, i2]
  show codeAny _ _ (.compStart (.ListComp elt [⟨.Tuple elts kk tpos, _, ifs, 0⟩] scope pos) 0 (.ref z) (.ref D) (compEnvC scope (cellsFrom (s3.heap.objs.size + 1) scope.names (cloFrom X.env.cells scope.names [])) s3.heap.objs.size X.env)) (compPost (model X.prog X.w) X.A X.xe none _ (.ref D) s3.heap.objs.size) { s3 with heap := pushCells (s3.heap.push { cls := .type "dict", data := .dict #[] }) scope.names }
  generalize hce : compEnvC scope (cellsFrom (s3.heap.objs.size + 1) scope.names (cloFrom X.env.cells scope.names [])) s3.heap.objs.size X.env = ce at I4 pg pt pe ⊢
  have cL : ce.locals = s3.heap.objs.size := by subst hce; rfl
  have nfp : ∀ b ∈ [L, a, z, TI, TO, i2], (upd H1 D (.lst [])) b = none := fun b hb => (f3 b hb).1.1
  generalize hH3 : upd H1 D (.lst []) = H3 at I3 I4 pg pt pe w0 nfp f3
  have kp4 : ∀ b o, s3.heap.get? b = some o → (pushCells (s3.heap.push { cls := .type "dict", data := .dict #[] }) scope.names).get? b = some o := fun b o e => pushCells_keeps _ _ _ _ (Heap.get?_push_of_some _ e)
  have kg4 : ∀ b o, sg.heap.get? b = some o → (pushCells (s3.heap.push { cls := .type "dict", data := .dict #[] }) scope.names).get? b = some o := fun b o e => kp4 b o (kp3 b o (by rw [hh2]; exact hk' b o e))
  have k24 : ∀ b o, h'.get? b = some o → (pushCells (s3.heap.push { cls := .type "dict", data := .dict #[] }) scope.names).get? b = some o := fun b o e => kp4 b o (kp3 b o (by rw [hh2]; exact e))
  generalize hs4 : ({ s3 with heap := pushCells (s3.heap.push { cls := .type "dict", data := .dict #[] }) scope.names } : Shared) = s4 at I4 ⊢
  have h4 : s4.heap = pushCells (s3.heap.push { cls := .type "dict", data := .dict #[] }) scope.names := by rw [← hs4]
  have hg4 : s4.gens = sg.gens := by rw [← hs4]; exact hg3
  rw [← h4] at kg4 k24
  have hdp : X.A.depth < recursionLimit := by have := hr.dp; omega
  have stat : ∀ b, b = L ∨ b = a ∨ b = z ∨ b = TI ∨ b = TO ∨ b = i2 → FpOk (X.blk s3 H3 scope ce [L, a, z, TI, TO, i2]) [] H3 b := fun b hb => by
    have hm : b ∈ [L, a, z, TI, TO, i2] := by simpa using hb
    exact ⟨nfp b hm, (I4.ok.exf b hm).1, I4.ok.exfs b hm, .inl hm, fun x c e => (I4.ok.exf b hm).2 x c e, fun p hp => absurd (show p ∈ ([] : List (Addr × Obj)) ++ [] from hp) (by simp)⟩
  obtain ⟨go, gnm, gqn, hgo1, hgc, hgd, hgsl⟩ := GM.gen
  obtain ⟨oL, hoL, hLc⟩ := GM.own
  obtain ⟨gs, hgs, hgoes⟩ := GM.goes
  obtain ⟨oi, hoi, hi1, hi2'⟩ := id h2
  have St0 : ZStand (X.blk s3 H3 scope ce [L, a, z, TI, TO, i2]) L a z TI TO i2 l2 gg sh G.nm n items W (wipe σ (own.map (·.2))) 0 H3 s4 := by
    refine ⟨I4, w0, ⟨go, gnm, gqn, kg4 _ _ hgo1, hgc, hgd, hgsl⟩, k24 _ _ hz, k24 _ _ hTI, ⟨_, _, k24 _ _ hTO⟩, ⟨oi, k24 _ _ hoi, hi1, hi2'⟩, ⟨oL, kg4 _ _ hoL, hLc⟩, ⟨gs, by rw [hg4]; exact hgs, fun s2' aw hz' => ?_⟩, stat, fun b hb => ?_⟩
    · have aw : Awk X.prog X.w X.base X.stack L sh (sh.map (·.1)) s4 s2' := aw
      exact hgoes s2' ⟨aw.bare, fun b hb o e => aw.own b hb o (kg4 b o e), aw.shr, aw.bas, aw.funs⟩ hz'
    · have hb : b ∈ sh.map (·.1) := hb
      obtain ⟨pp, hp, rfl⟩ := List.mem_map.mp hb
      have hlt := GM.shl pp hp
      refine ⟨fun _ => ⟨pp.2, hp⟩, fun q => absurd q (Nat.lt_asymm hlt), ?_, ?_, ?_, ?_, ?_⟩
      · exact Nat.ne_of_lt (Nat.lt_trans hlt Z.La)
      · exact Nat.ne_of_lt (Nat.lt_trans hlt Z.Lz)
      · exact Nat.ne_of_lt (Nat.lt_trans hlt Z.LTI)
      · exact Nat.ne_of_lt (Nat.lt_trans hlt Z.LTO)
      · exact Nat.ne_of_lt (Nat.lt_trans hlt Z.Li2)
  refine (fun loop => codeAny_compStart_list loop (wpAny_pyIter_zip (St0.zip) loop)) ?_
  refine compLoop_any (fun m s' => ∃ i H', i ≤ n ∧ m = n - i ∧ ZStand (X.blk s3 H3 scope ce [L, a, z, TI, TO, i2]) L a z TI TO i2 l2 gg sh G.nm n items W (wipe σ (own.map (·.2))) i H' s') ?_ n ⟨0, H3, Nat.zero_le _, rfl, St0⟩
  rintro m s5 ⟨i, H5, hi, rfl, St⟩
  by_cases hlt : i < n
  · refine zstand_item (X := X.blk s3 H3 scope ce [L, a, z, TI, TO, i2]) (D := D) rfl hc (fun _ _ f => f) hdp GM.st Z hly wsh pg pt pe wt hlt St fun T s6 hh => ?_
    refine thnF hh fun _ s7 h7 => thnF h7 fun _ s8 h8 => thnF h8 fun ok s9 h9 => ?_
    cases ok with
    | false =>
      simp only [Bool.false_eq_true, if_false] at h9 ⊢
      obtain ⟨H', Z'⟩ := h9
      exact ⟨n - (i + 1), by omega, i + 1, H', hlt, rfl, Z'⟩
    | true =>
      simp only [if_true] at h9 ⊢
      refine thnF h9 fun x s10 h10 => thnF h10 fun _ s11 ⟨H', Z'⟩ => ⟨n - (i + 1), by omega, i + 1, H', hlt, rfl, Z'⟩
  · obtain rfl : i = n := by omega
    refine zstand_end (X := X.blk s3 H3 scope ce [L, a, z, TI, TO, i2]) hc hdp GM.st Z (wsh i H5 (Nat.le_refl _) St.w).1 St fun s6 I6 => ?_
    have I7 : Inv X pins σ H5 s6 := I3.call' (ch := [L, a, z, TI, TO, i2]) I6.os I6.base I6.hok I6.bare fun b hb => ⟨(f3 b hb).1.2.2.2.1, (f3 b hb).1.2.1, (f3 b hb).1.2.2.2.2.1, (f3 b hb).1.2.2.2.2.2⟩
    have nC : H5 s3.heap.objs.size = none := by
      have z : H5 ce.locals = none := I6.free
      rw [cL] at z
      exact z
    obtain ⟨m, hn', _⟩ := I6.loc
    have hn' : s6.heap.Ns ce.locals m := hn'
    rw [cL] at hn'
    refine ⟨m, hn', fun h'' sb => ?_⟩
    obtain ⟨f0, f1, f2, f3, f4, f5⟩ := I3.fpOk (Nat.le_refl _) nC
    exact ⟨.ref D, H5, I7.turned (t' := s6.toks) (fun b o hb e => (sb.2 b hb).trans e) f0 f1 f3 f4 f5, rfl, wd H5 St.w⟩
end Br

/-! ### zip of any number of lists: its next -/
namespace Br
open PySem PySem.Spec PyProof.Rows L2
theorem alive_any {M : Model} {A : Around} {s : Shared} {E : Value → Shared → Prop} {a : Addr} {Q : Option Obj → Shared → Prop} (h : Q (s.heap.get? a) s) : wpAny M A (loadIfAlive a) Q E s := fun Γ p _ => by
  show Sem.wp M Γ (.loadIfAlive a .pure) _ _ p s
  rw [Sem.wp_loadIfAlive, Sem.wp_pure]
  exact h
abbrev IsZipF (h : Heap) (z TI TO : Addr) (f0 f1 : Value) : Prop := h.get? z = some { cls := .type "zip", dict := none, data := .fields #[f0, f1, .bool false, .ref TI, .ref TO], slots := #[] }
structure ZipN (h : Heap) (z TI TO : Addr) (its ls : List Addr) (k : Nat) : Prop where
  z : ∃ f0 f1, IsZipF h z TI TO f0 f1 ∧ (f0 = .none ∨ ∃ T : Addr, f0 = rawInt T)
  ti : h.get? TI = some { cls := .type "tuple", data := .seq (its.map Value.ref).toArray }
  to : ∃ olds : Array Value, h.get? TO = some { cls := .type "tuple", data := .seq olds } ∧ olds.size = its.length
  it : ∀ (j : Nat) i l, its[j]? = some i → ls[j]? = some l → h.IsListIter i l k
structure ZApartN (z TI TO : Addr) (its ls : List Addr) : Prop where
  TIz : TI ≠ z
  TOz : TO ≠ z
  TITO : TI ≠ TO
  iz : ∀ i ∈ its, i ≠ z ∧ i ≠ TI ∧ i ≠ TO
  nd : its.Nodup
  lz : ∀ l ∈ ls, l ≠ z ∧ l ≠ TO ∧ l ∉ its
  len : its.length = ls.length
/-- column j's list has x in place k -/
def ColsAt (h : Heap) (ls : List Addr) (k : Nat) (xs : List Value) : Prop := xs.length = ls.length ∧ ∀ (j : Nat) l x, ls[j]? = some l → xs[j]? = some x → ∃ items : Array Value, h.IsList l items ∧ items[k]? = some x
theorem ColsAt.keep {h h' : Heap} {ls : List Addr} {k : Nat} {xs : List Value} (C : ColsAt h ls k xs) (kp : ∀ l ∈ ls, ∀ o, h.get? l = some o → h'.get? l = some o) : ColsAt h' ls k xs := ⟨C.1, fun j l x h1 h2 => by
  obtain ⟨items, ⟨o, e, r⟩, q⟩ := C.2 j l x h1 h2
  exact ⟨items, ⟨o, kp l (List.mem_of_getElem? h1) o e, r⟩, q⟩⟩
theorem drop_cons_of {α : Type} {l : List α} {j : Nat} {x : α} {r : List α} (h : l.drop j = x :: r) : l[j]? = some x ∧ r = l.drop (j + 1) := by
  refine ⟨?_, ?_⟩
  · have := congrArg (fun l => l[0]?) h
    simpa [List.getElem?_drop] using this
  · have := congrArg List.tail h
    rw [List.tail_drop] at this
    exact this.symm
section
variable {P : Program} {w : World} {A : Around} {E : Value → Shared → Prop} {s : Shared}
/-- halfway through the iterators: the first j have moved on -/
structure ZHalf (h : Heap) (its ls : List Addr) (k j : Nat) : Prop where
  old : ∀ (m : Nat) i l, j ≤ m → its[m]? = some i → ls[m]? = some l → h.IsListIter i l k
  new : ∀ (m : Nat) i l, m < j → its[m]? = some i → ls[m]? = some l → h.IsListIter i l (k + 1)
theorem ZHalf.step {h h' : Heap} {its ls : List Addr} {k j : Nat} {i l : Addr} (Z : ZHalf h its ls k j) (nd : its.Nodup) (hi : its[j]? = some i) (hl : ls[j]? = some l) (hn : h'.IsListIter i l (k + 1)) (kp : ∀ b o, b ≠ i → b ∈ its → h.get? b = some o → h'.get? b = some o) : ZHalf h' its ls k (j + 1) := by
  have ne : ∀ (m : Nat) i', its[m]? = some i' → m ≠ j → i' ≠ i := fun m i' e hm q => by
    subst q
    obtain ⟨h1, e1⟩ := List.getElem?_eq_some_iff.mp e
    obtain ⟨h2, e2⟩ := List.getElem?_eq_some_iff.mp hi
    exact hm ((List.getElem_inj (h₀ := h1) (h₁ := h2) nd).mp (e1.trans e2.symm))
  refine ⟨fun m i' l' hm e1 e2 => ?_, fun m i' l' hm e1 e2 => ?_⟩
  · exact (Z.old m i' l' (by omega) e1 e2).at fun o e => kp i' o (ne m i' e1 (by omega)) (List.mem_of_getElem? e1) e
  · by_cases q : m = j
    · subst q
      rw [hi] at e1; cases e1
      rw [hl] at e2; cases e2
      exact hn
    · exact (Z.new m i' l' (by omega) e1 e2).at fun o e => kp i' o (ne m i' e1 q) (List.mem_of_getElem? e1) e
theorem zipN_item {z TI TO : Addr} {its ls : List Addr} {k : Nat} {xs : List Value} {Q : Option Value → Shared → Prop} (D : ZApartN z TI TO its ls) (Z : ZipN s.heap z TI TO its ls k) (C : ColsAt s.heap ls k xs) (hne : its ≠ []) (hsz : its.length ≤ sizeLine)
    (hQ : ∀ h', ZipN h' z TI TO its ls (k + 1) → h'.get? s.heap.objs.size = some { cls := .type "tuple", data := .seq xs.toArray } → h'.objs.size = s.heap.objs.size + 1 →
      (∀ c o, c ≠ z → c ≠ TO → c ∉ its → s.heap.get? c = some o → h'.get? c = some o) → Q (some (.ref s.heap.objs.size)) { s with heap := h' }) :
    wpAny (model P w) A (pyNext (.ref z)) Q E s := by
  obtain ⟨f0, f1, hz, hf⟩ := Z.z
  have hT : s.TypeIs (.ref z) "zip" := ⟨_, hz, rfl⟩
  unfold pyNext
  refine wpAny_bind (wpAny_attempt (wpAny_callSpecial?_slot (name := Str.ofString "__next__") hT F.slot_zip_next
    (wpAny_call_entry F.slot_zip_next hT F.entry_zip_next ?_ (F.args_zip_next_1 _))))
  show wpAny _ _ (field (.ref z) 2 >>= _) _ _ _
  refine wpAny_bind (wpAny_field hz rfl (x := .bool false) rfl ?_)
  show wpAny _ _ (field (.ref z) 3 >>= _) _ _ _
  refine wpAny_bind (wpAny_field hz rfl (x := .ref TI) rfl ?_)
  refine wpAny_bind (wpAny_seqItems Z.ti rfl ?_)
  have he : (its.map Value.ref).toArray.isEmpty = false := by
    cases its with
    | nil => exact absurd rfl hne
    | cons a r => rfl
  simp only [he, Bool.false_eq_true, if_false]
  show wpAny _ _ (Builtin.SmallTypes.ownedTupleIsFree (.ref z) >>= _) _ _ _
  have free : wpAny (model P w) A.in1 (Builtin.SmallTypes.ownedTupleIsFree (.ref z)) (fun b s' => (b = true ∧ s' = s) ∨ (b = false ∧ ∃ h' f1', s' = { s with heap := h' } ∧ IsZipF h' z TI TO f0 f1' ∧ Heap.SameBut z s.heap h')) (fun _ _ => False) s := by
    unfold Builtin.SmallTypes.ownedTupleIsFree
    rcases hf with rfl | ⟨T, rfl⟩
    · exact wpAny_bind (wpAny_field hz rfl (x := .none) rfl (wpAny_pure (.inl ⟨rfl, rfl⟩)))
    · refine wpAny_bind (wpAny_field hz rfl (x := rawInt T) rfl ?_)
      show wpAny _ _ (loadIfAlive ((T : Int).toNat) >>= _) _ _ _
      refine wpAny_bind (alive_any ?_)
      cases s.heap.get? (T : Int).toNat with
      | none => exact wpAny_pure (.inl ⟨rfl, rfl⟩)
      | some o =>
        simp only [Option.isNone_some, Bool.false_eq_true, if_false]
        refine wpAny_bind (wpAny_field hz rfl (x := f1) rfl ?_)
        by_cases hb : (f1 != Value.bool true) = true
        · rw [if_pos hb]
          refine wpAny_bind (wpAny_setField_rec hz (by simp) fun h₁ hz₁ hs₁ => ?_)
          exact wpAny_pure (.inr ⟨rfl, h₁, .bool true, rfl, hz₁, hs₁⟩)
        · rw [if_neg hb]
          exact wpAny_pure (.inr ⟨rfl, s.heap, f1, rfl, hz, Heap.SameBut.refl _ _⟩)
  refine wpAny_bind (wpAny_mono free (fun b s' hb => ?_) fun _ _ f => f.elim)
  rcases hb with ⟨rfl, hse⟩ | ⟨rfl, h₁, f1', rfl, hz₁, hs₁⟩
  · rw [hse]
    clear hse
    simp only [if_true]
    refine wpAny_bind (wpAny_rule ?_)
    refine wpAny_bind (wpAny_field hz rfl (x := .ref TO) rfl ?_)
    refine wpAny_bind (wpAny_setField_rec hz (by simp) fun h₁ hz₁ hs₁ => ?_)
    replace hz₁ : IsZipF h₁ z TI TO .ellipsis f1 := hz₁
    refine wpAny_bind ?_
    refine wpAny_forIn_list _ (fun rest b s' => b.1 = none ∧ ∃ (j : Nat) (h' : Heap) (olds : Array Value), j ≤ its.length ∧ rest = ((its.map Value.ref).zipIdx).drop j ∧ s' = { s with heap := h' } ∧ ZHalf h' its ls k j ∧ h'.objs.size = s.heap.objs.size ∧ IsZipF h' z TI TO .ellipsis f1 ∧
      h'.get? TO = some { cls := .type "tuple", data := .seq olds } ∧ olds.size = its.length ∧ (∀ m, m < j → olds[m]? = xs[m]?) ∧ ∀ c o, c ≠ z → c ≠ TO → c ∉ its → s.heap.get? c = some o → h'.get? c = some o) _ (fun x rest b s' hI => ?_) (fun b s' hI => ?_) _ _ ⟨rfl, 0, h₁, ?_⟩
    · obtain ⟨hb, j, h', olds, hj, hr, rfl, ZH, hs', hz', hTO', hol, hx', kp⟩ := hI
      obtain ⟨e1, e2⟩ := drop_cons_of hr.symm
      rw [List.getElem?_zipIdx, List.getElem?_map] at e1
      obtain ⟨i, hi⟩ : ∃ i, its[j]? = some i := by
        cases q : its[j]? with
        | none => rw [q] at e1; cases e1
        | some i => exact ⟨i, rfl⟩
      rw [hi] at e1
      obtain rfl : x = (Value.ref i, 0 + j) := (Option.some.inj e1).symm
      rw [Nat.zero_add]
      have him := List.mem_of_getElem? hi
      obtain ⟨iz, iTI, iTO⟩ := D.iz i him
      have hjl : j < its.length := (List.getElem?_eq_some_iff.mp hi).1
      obtain ⟨l, hl⟩ : ∃ l, ls[j]? = some l := ⟨_, List.getElem?_eq_getElem (by rw [← D.len]; exact hjl)⟩
      obtain ⟨y, hy⟩ : ∃ y, xs[j]? = some y := ⟨_, List.getElem?_eq_getElem (by rw [C.1, ← D.len]; exact hjl)⟩
      obtain ⟨items, ⟨ol, hol1, hol2⟩, hit⟩ := C.2 j l y hl hy
      obtain ⟨lz, lTO, lits⟩ := D.lz l (List.mem_of_getElem? hl)
      refine wpAny_bind (wpAny_onRaise ?_)
      show wpAny _ _ (Builtin.SmallTypes.nextOf (.ref i) >>= _) _ _ _
      refine wpAny_bind (wpAny_nextOf_list_item (ZH.old j i l (Nat.le_refl _) hi hl) ⟨ol, kp l ol lz lTO lits hol1, hol2⟩ hit fun h₂ h1₂ hs₂ => wpAny_pure ?_)
      replace hs₂ : Heap.SameBut i h' h₂ := hs₂
      have hTO₂ : h₂.get? TO = some { cls := .type "tuple", data := .seq olds } := hs₂.extBut _ _ (Ne.symm iTO) hTO'
      refine wpAny_bind (wpAny_seqItems hTO₂ rfl ?_)
      refine wpAny_bind (wpAny_updateSeq hTO₂ rfl ?_ (by rw [hol]; exact hsz) (by rw [Array.size_setIfInBounds, hol]; exact Nat.le_succ_of_le hsz))
      refine wpAny_bind (wpAny_letGo (wpAny_pure ?_))
      have hs₃ : Heap.SameBut TO h₂ (h₂.update TO (Obj.mapSeq (·.setIfInBounds j y))) := Heap.SameBut.update ..
      have hTO₃ : (h₂.update TO (Obj.mapSeq (·.setIfInBounds j y))).get? TO = some { cls := .type "tuple", data := .seq (olds.setIfInBounds j y) } := by
        rw [Heap.get?_update_self _ hTO₂ rfl]
        simp [Obj.mapSeq]
      refine ⟨rfl, j + 1, h₂.update TO (Obj.mapSeq (·.setIfInBounds j y)), olds.setIfInBounds j y, hjl, e2, rfl, ?_, ?_, hs₃.extBut _ _ (Ne.symm D.TOz) (hs₂.extBut _ _ (Ne.symm iz) hz'), hTO₃, by rw [Array.size_setIfInBounds]; exact hol, fun m hm => ?_, fun c o c1 c2 c3 e => hs₃.extBut _ _ c2 (hs₂.extBut _ _ (fun q => c3 (q ▸ him)) (kp c o c1 c2 c3 e))⟩
      · exact ZH.step D.nd hi hl (h1₂.at fun o e => hs₃.extBut _ _ iTO e) fun b o c1 c2 e => hs₃.extBut _ _ (D.iz b c2).2.2 (hs₂.extBut _ _ c1 e)
      · rw [hs₃.1, hs₂.1]; exact hs'
      · by_cases q : m = j
        · subst q
          rw [hy, Array.getElem?_setIfInBounds_self_of_lt (by omega)]
        · rw [Array.getElem?_setIfInBounds_ne (Ne.symm q)]
          exact hx' m (by omega)
    · obtain ⟨hb, j, h', olds, hj, hr, rfl, ZH, hs', hz', hTO', hol, hx', kp⟩ := hI
      have hjl : j = its.length := by
        have := congrArg List.length hr
        rw [List.length_drop, List.length_zipIdx, List.length_map] at this
        have h0 : ([] : List (Value × Nat)).length = 0 := rfl
        omega
      subst hjl
      have eo : olds = xs.toArray := by
        apply Array.ext_getElem?
        intro m
        by_cases q : m < its.length
        · rw [hx' m q]; simp
        · have q1 : xs.length = its.length := by rw [C.1, D.len]
          rw [Array.getElem?_eq_none (by omega), Array.getElem?_eq_none (by rw [List.size_toArray]; omega)]
      subst eo
      obtain ⟨b1, b2⟩ := b
      obtain rfl : b1 = none := hb
      show wpAny _ _ (seqItems? (.ref TO) >>= _) _ _ _
      refine wpAny_bind (wpAny_seqItems hTO' rfl ?_)
      refine wpAny_bind (wpAny_newTuple ?_ (by simp; rw [C.1, ← D.len]; exact hsz))
      show wpAny _ _ (Builtin.SmallTypes.ownedTupleHandOut (.ref z) (.ref h'.objs.size) >>= _) _ _ _
      refine wpAny_bind ?_
      unfold Builtin.SmallTypes.ownedTupleHandOut
      have hzl : z < h'.objs.size := Heap.lt_size hz'
      have hz₆ : IsZipF (h'.push { cls := .type "tuple", data := .seq xs.toArray }) z TI TO .ellipsis f1 := Heap.get?_push_of_some _ hz'
      have eX : xs.toArray.toList.toArray = xs.toArray := by simp
      rw [eX]
      refine wpAny_bind (wpAny_setField_rec hz₆ (by simp) fun h₇ hz₇ hs₇ => ?_)
      replace hz₇ : IsZipF h₇ z TI TO (rawInt h'.objs.size) f1 := hz₇
      refine wpAny_setField_rec hz₇ (by simp) fun h₈ hz₈ hs₈ => ?_
      replace hz₈ : IsZipF h₈ z TI TO (rawInt h'.objs.size) (.bool false) := hz₈
      have up : ∀ c o, c ≠ z → h'.get? c = some o → h₈.get? c = some o := fun c o c1 e => hs₈.extBut _ _ c1 (hs₇.extBut _ _ c1 (Heap.get?_push_of_some _ e))
      have hT₈ : h₈.get? h'.objs.size = some { cls := .type "tuple", data := .seq xs.toArray } := hs₈.extBut _ _ (Nat.ne_of_gt hzl) (hs₇.extBut _ _ (Nat.ne_of_gt hzl) (Heap.get?_push_size _ rfl))
      have hz8 : h₈.objs.size = h'.objs.size + 1 := by rw [hs₈.1, hs₇.1, Heap.size_push]
      have hti : h'.get? TI = some { cls := .type "tuple", data := .seq (its.map Value.ref).toArray } := kp TI _ D.TIz D.TITO (fun q => (D.iz TI q).2.1 rfl) Z.ti
      have fin := hQ h₈ ⟨⟨_, _, hz₈, .inr ⟨_, rfl⟩⟩, up _ _ D.TIz hti, ⟨_, up _ _ D.TOz hTO', hol⟩, fun m i l e1 e2 => (ZH.new m i l (List.getElem?_eq_some_iff.mp e1).1 e1 e2).at fun o e => up _ o (D.iz i (List.mem_of_getElem? e1)).1 e⟩ (by rw [← hs']; exact hT₈) (by rw [hz8, hs'])
        fun c o c1 c2 c3 e => up c o c1 (kp c o c1 c2 c3 e)
      refine wpAny_pure ⟨_, rfl, wpAny_pure ?_⟩
      rw [hs']
      exact fin
    · refine ⟨(Classical.choose Z.to), Nat.zero_le _, rfl, rfl, ?_, hs₁.1, hz₁, hs₁.extBut _ _ D.TOz (Classical.choose_spec Z.to).1, (Classical.choose_spec Z.to).2, fun m hm => absurd hm (Nat.not_lt_zero _), fun c o c1 _ _ e => hs₁.extBut _ _ c1 e⟩
      exact ⟨fun m i l _ e1 e2 => (Z.it m i l e1 e2).at fun o e => hs₁.extBut _ _ (D.iz i (List.mem_of_getElem? e1)).1 e, fun m i l hm => absurd hm (Nat.not_lt_zero _)⟩
  · simp only [Bool.false_eq_true, if_false]
    rw [List.forIn_toArray]
    refine wpAny_bind ?_
    refine wpAny_forIn_list _ (fun rest b s' => b.1 = none ∧ ∃ (j : Nat) (h' : Heap), j ≤ its.length ∧ rest = (its.map Value.ref).drop j ∧ b.2 = (xs.take j).toArray ∧ s' = { s with heap := h' } ∧ ZHalf h' its ls k j ∧ h'.objs.size = s.heap.objs.size ∧
      ∀ c o, c ∉ its → h₁.get? c = some o → h'.get? c = some o) _ (fun x rest b s' hI => ?_) (fun b s' hI => ?_) _ _ ⟨rfl, 0, h₁, Nat.zero_le _, rfl, rfl, rfl, ?_, hs₁.1, fun c o _ e => e⟩
    · obtain ⟨hb, j, h', hj, hr, hb2, rfl, ZH, hs', kp⟩ := hI
      obtain ⟨e1, e2⟩ := drop_cons_of hr.symm
      rw [List.getElem?_map] at e1
      obtain ⟨i, hi⟩ : ∃ i, its[j]? = some i := by
        cases q : its[j]? with
        | none => rw [q] at e1; cases e1
        | some i => exact ⟨i, rfl⟩
      rw [hi] at e1
      obtain rfl : x = Value.ref i := (Option.some.inj e1).symm
      have him := List.mem_of_getElem? hi
      have hjl : j < its.length := (List.getElem?_eq_some_iff.mp hi).1
      obtain ⟨l, hl⟩ : ∃ l, ls[j]? = some l := ⟨_, List.getElem?_eq_getElem (by rw [← D.len]; exact hjl)⟩
      obtain ⟨y, hy⟩ : ∃ y, xs[j]? = some y := ⟨_, List.getElem?_eq_getElem (by rw [C.1, ← D.len]; exact hjl)⟩
      obtain ⟨items, ⟨ol, hol1, hol2⟩, hit⟩ := C.2 j l y hl hy
      obtain ⟨lz, lTO, lits⟩ := D.lz l (List.mem_of_getElem? hl)
      refine wpAny_bind (wpAny_holding ?_)
      show wpAny _ _ (Builtin.SmallTypes.nextOf (.ref i) >>= _) _ _ _
      refine wpAny_bind (wpAny_nextOf_list_item (ZH.old j i l (Nat.le_refl _) hi hl) ⟨ol, kp l ol lits (hs₁.extBut _ _ lz hol1), hol2⟩ hit fun h₂ h1₂ hs₂ => wpAny_pure ?_)
      replace hs₂ : Heap.SameBut i h' h₂ := hs₂
      refine wpAny_pure ⟨rfl, j + 1, h₂, hjl, e2, ?_, rfl, ?_, ?_, fun c o c1 e => hs₂.extBut _ _ (fun q => c1 (q ▸ him)) (kp c o c1 e)⟩
      · show b.2.push y = _
        rw [hb2, List.take_succ, hy]
        simp
      · exact ZH.step D.nd hi hl h1₂ fun b o c1 c2 e => hs₂.extBut _ _ c1 e
      · rw [hs₂.1]; exact hs'
    · obtain ⟨hb, j, h', hj, hr, hb2, rfl, ZH, hs', kp⟩ := hI
      have hjl : j = its.length := by
        have := congrArg List.length hr
        rw [List.length_drop, List.length_map] at this
        have h0 : ([] : List Value).length = 0 := rfl
        omega
      subst hjl
      obtain ⟨b1, b2⟩ := b
      obtain rfl : b1 = none := hb
      have eb : b2 = xs.toArray := by
        have q1 : xs.length = its.length := by rw [C.1, D.len]
        have hb2 : b2 = (xs.take its.length).toArray := hb2
        rw [hb2, ← q1, List.take_length]
      subst eb
      show wpAny _ _ (newTuple xs.toArray.toList >>= _) _ _ _
      refine wpAny_bind (wpAny_newTuple ?_ (by simp; rw [C.1, ← D.len]; exact hsz))
      have eX : xs.toArray.toList.toArray = xs.toArray := by simp
      rw [eX]
      have up : ∀ c o, h'.get? c = some o → (h'.push { cls := .type "tuple", data := .seq xs.toArray }).get? c = some o := fun c o e => Heap.get?_push_of_some _ e
      have nz : z ∉ its := fun q => (D.iz z q).1 rfl
      have nTI : TI ∉ its := fun q => (D.iz TI q).2.1 rfl
      have nTO : TO ∉ its := fun q => (D.iz TO q).2.2 rfl
      obtain ⟨olds, ho1, ho2⟩ := Z.to
      have fin := hQ (h'.push { cls := .type "tuple", data := .seq xs.toArray }) ⟨⟨_, _, up _ _ (kp z _ nz hz₁), hf⟩, up _ _ (kp TI _ nTI (hs₁.extBut _ _ D.TIz Z.ti)), ⟨_, up _ _ (kp TO _ nTO (hs₁.extBut _ _ D.TOz ho1)), ho2⟩, fun m i l e1 e2 => (ZH.new m i l (List.getElem?_eq_some_iff.mp e1).1 e1 e2).at fun o e => up _ o e⟩ (by rw [← hs']; exact Heap.get?_push_size _ rfl) (by rw [Heap.size_push, hs'])
        fun c o c1 c2 c3 e => up c o (kp c o c3 (hs₁.extBut _ _ c1 e))
      refine wpAny_pure ⟨_, rfl, wpAny_pure ?_⟩
      show Q (some (.ref h'.objs.size)) _
      rw [hs']
      exact fin
    · exact ⟨fun m i l _ e1 e2 => (Z.it m i l e1 e2).at fun o e => hs₁.extBut _ _ (D.iz i (List.mem_of_getElem? e1)).1 e, fun m i l hm => absurd hm (Nat.not_lt_zero _)⟩
end
end Br

/-! ### zip(*lists) is made; list(zip) -/
namespace Br
open PySem PySem.Spec PyProof.Rows L2
theorem typeCall_zipN (args : List Value) : checkTypeCall "zip" ⟨args, []⟩ = pure () := by kernel_rfl
theorem newCall_zipN : ∀ (args : List Value), checkBuiltinCall "zip.__new__" ⟨.type "zip" :: args, []⟩ = pure ()
  | [] => by kernel_rfl
  | a :: r => by kernel_rfl
theorem args_oiN (obj : Value) (args : List Value) : argsOk "object.__init__" ⟨obj :: args, []⟩ := by
  unfold argsOk; rw [signature?_of (id := "object.__init__") (n := ['_', '_', 't', 'i', 'n', 'i', '_', '_']) (o := ['t', 'c', 'e', 'j', 'b', 'o']) (by kernel_rfl) F.owner_object]; kernel_rfl
/-- iterators of the lists, laid one behind the other -/
structure Its (h h' : Heap) (ls : List Addr) (n : Nat) : Prop where
  sz : h'.objs.size = h.objs.size + n
  it : ∀ (j : Nat) l, j < n → ls[j]? = some l → h'.IsListIter (h.objs.size + j) l 0
  kp : ∀ b o, h.get? b = some o → h'.get? b = some o
def itsV (N n : Nat) : List Value := (List.range n).map fun j => Value.ref (N + j)
theorem iterAll_lists {prog : Program} {w : World} {A : Around} {s : Shared} {ls : List Addr} {E : Value → Shared → Prop} {Q : List Value → Shared → Prop} (hl : ∀ l ∈ ls, ∃ items, s.heap.IsList l items)
    (h : ∀ h', Its s.heap h' ls ls.length → Q (itsV s.heap.objs.size ls.length) { s with heap := h' }) : wpAny (model prog w) A (Builtin.SmallTypes.iterAll (ls.map Value.ref)) Q E s := by
  unfold Builtin.SmallTypes.iterAll
  refine wpAny_bind (wpAny_forIn_list _ (fun rest b s' => ∃ (j : Nat) (h' : Heap), j ≤ ls.length ∧ rest = (ls.map Value.ref).drop j ∧ b = (itsV s.heap.objs.size j).toArray ∧ s' = { s with heap := h' } ∧ Its s.heap h' ls j) _ (fun x rest b s' hI => ?_) (fun b s' hI => ?_) _ _ ⟨0, s.heap, Nat.zero_le _, rfl, rfl, rfl, rfl, fun j l hj => absurd hj (Nat.not_lt_zero _), fun _ _ e => e⟩)
  · obtain ⟨j, h', hj, hr, rfl, rfl, Z⟩ := hI
    obtain ⟨e1, e2⟩ := drop_cons_of hr.symm
    rw [List.getElem?_map] at e1
    obtain ⟨l, hl'⟩ : ∃ l, ls[j]? = some l := by
      cases q : ls[j]? with
      | none => rw [q] at e1; cases e1
      | some i => exact ⟨i, rfl⟩
    rw [hl'] at e1
    obtain rfl : x = Value.ref l := (Option.some.inj e1).symm
    have hjl : j < ls.length := (List.getElem?_eq_some_iff.mp hl').1
    obtain ⟨items, ol, hol, hol2⟩ := hl l (List.mem_of_getElem? hl')
    refine wpAny_bind (wpAny_holding (wpAny_pyIter_list (items := items) ⟨ol, Z.kp l ol hol, hol2⟩ ?_))
    have esz : h'.objs.size = s.heap.objs.size + j := Z.sz
    refine wpAny_pure ⟨j + 1, _, hjl, e2, ?_, rfl, ?_, fun m l' hm e => ?_, fun b o e => Heap.get?_push_of_some _ (Z.kp b o e)⟩
    · show ((itsV s.heap.objs.size j).toArray).push (.ref h'.objs.size) = _
      rw [esz]
      unfold itsV
      rw [List.range_succ, List.map_append]
      simp
    · show (h'.push _).objs.size = _
      rw [Heap.size_push, esz]; rfl
    · by_cases q : m = j
      · subst q
        rw [hl'] at e; cases e
        rw [← esz]
        exact ⟨_, Heap.get?_push_size _ rfl, rfl, rfl⟩
      · exact (Z.it m l' (by omega) e).at fun o e => Heap.get?_push_of_some _ e
  · obtain ⟨j, h', hj, hr, rfl, rfl, Z⟩ := hI
    have hjl : j = ls.length := by
      have := congrArg List.length hr
      rw [List.length_drop, List.length_map] at this
      have h0 : ([] : List Value).length = 0 := rfl
      omega
    subst hjl
    exact wpAny_pure (h h' Z)
/-- the zip's three objects behind the iterators -/
structure ZNew (h h' : Heap) (ls : List Addr) : Prop where
  sz : h'.objs.size = h.objs.size + ls.length + 3
  zn : ZipN h' (h.objs.size + ls.length + 2) (h.objs.size + ls.length) (h.objs.size + ls.length + 1) ((List.range ls.length).map (h.objs.size + ·)) ls 0
  kp : ∀ b o, h.get? b = some o → h'.get? b = some o
theorem meets_zipN_new (ls : List Addr) (hsz : ls.length ≤ sizeLine) : Meets (Builtin.«zip.__new__» ⟨.type "zip" :: ls.map Value.ref, []⟩) (fun _ R s => (∀ l ∈ ls, ∃ items, s.heap.IsList l items) ∧
    ∀ h', ZNew s.heap h' ls → R (.ok (.ret (.ref (s.heap.objs.size + ls.length + 2)))) { s with heap := h' }) :=
  .of_wp fun prog w A R s h => by
    obtain ⟨hp, g', d, tk, os⟩ := s; obtain ⟨hl, h⟩ := h
    have hsub := sub_zip
    have hit : ∀ {Q : List Value → Shared → Prop} {E : Value → Shared → Prop}, (∀ h', Its hp h' ls ls.length → Q (itsV hp.objs.size ls.length) ⟨h', g', d, tk, os⟩) → wpAny (model prog w) A.in1 (Builtin.SmallTypes.iterAll (ls.map Value.ref)) Q E ⟨hp, g', d, tk, os⟩ := fun q => iterAll_lists (s := ⟨hp, g', d, tk, os⟩) hl q
    wp_walk using hit
    intro h' Z
    have esz : h'.objs.size = hp.objs.size + ls.length := Z.sz
    have el : (itsV hp.objs.size ls.length).length = ls.length := by unfold itsV; rw [List.length_map, List.length_range]
    refine wpAny_bind (wpAny_newTuple ?_ (by rw [el]; exact hsz))
    refine wpAny_bind (wpAny_newTuple ?_ (by rw [List.length_map, el]; exact hsz))
    show wpAny _ _ (newObj (.type "zip") (.fields #[.none, .bool false, .bool false, .ref h'.objs.size, .ref (h'.push { cls := .type "tuple", data := .seq (itsV hp.objs.size ls.length).toArray }).objs.size]) >>= _) _ _ _
    refine wpAny_bind (wpAny_newObj_type ?_ (by size_fits))
    have z1 : (h'.push { cls := .type "tuple", data := .seq (itsV hp.objs.size ls.length).toArray }).objs.size = hp.objs.size + ls.length + 1 := by rw [Heap.size_push, esz]
    have g1 : (h'.push { cls := .type "tuple", data := .seq (itsV hp.objs.size ls.length).toArray }).get? h'.objs.size = some _ := Heap.get?_push_size _ rfl
    generalize hh1 : h'.push { cls := .type "tuple", data := .seq (itsV hp.objs.size ls.length).toArray } = h1 at z1 g1
    have k1 : ∀ b o, h'.get? b = some o → h1.get? b = some o := fun b o e => by rw [← hh1]; exact Heap.get?_push_of_some _ e
    have z2 : (h1.push { cls := .type "tuple", data := .seq ((itsV hp.objs.size ls.length).map fun _ => Value.none).toArray }).objs.size = hp.objs.size + ls.length + 2 := by rw [Heap.size_push, z1]
    have g2 : (h1.push { cls := .type "tuple", data := .seq ((itsV hp.objs.size ls.length).map fun _ => Value.none).toArray }).get? h1.objs.size = some _ := Heap.get?_push_size _ rfl
    have g1' := Heap.get?_push_of_some { cls := .type "tuple", data := .seq ((itsV hp.objs.size ls.length).map fun _ => Value.none).toArray } g1
    generalize hh2 : h1.push { cls := .type "tuple", data := .seq ((itsV hp.objs.size ls.length).map fun _ => Value.none).toArray } = h2 at z2 g2 g1'
    have k2 : ∀ b o, h1.get? b = some o → h2.get? b = some o := fun b o e => by rw [← hh2]; exact Heap.get?_push_of_some _ e
    refine wpAny_pure ⟨_, rfl, ?_⟩
    show R (.ok (.ret (.ref h2.objs.size))) _
    rw [z2]
    rw [esz, z1]
    rw [esz] at g1'
    rw [z1] at g2
    refine h _ ⟨by rw [Heap.size_push, z2], ⟨⟨.none, .bool false, ?_, .inl rfl⟩, ?_, ⟨_, Heap.get?_push_of_some _ g2, by simp [el]⟩, fun j i l e1 e2 => ?_⟩, fun b o e => Heap.get?_push_of_some _ (k2 b o (k1 b o (Z.kp b o e)))⟩
    · have := Heap.get?_push_size h2 (o := { cls := .type "zip", data := .fields #[.none, .bool false, .bool false, .ref (hp.objs.size + ls.length), .ref (hp.objs.size + ls.length + 1)] }) rfl
      rw [z2] at this
      exact this
    · have e : ((List.range ls.length).map (hp.objs.size + ·)).map Value.ref = itsV hp.objs.size ls.length := by unfold itsV; rw [List.map_map]; rfl
      show Heap.get? _ (hp.objs.size + ls.length) = some { cls := .type "tuple", data := .seq (((List.range ls.length).map (hp.objs.size + ·)).map Value.ref).toArray }
      rw [e]
      exact Heap.get?_push_of_some _ g1'
    · have hj : j < ls.length := (List.getElem?_eq_some_iff.mp e2).1
      rw [List.getElem?_map, List.getElem?_range hj] at e1
      obtain rfl : i = hp.objs.size + j := (Option.some.inj e1).symm
      exact (Z.it j l hj e2).at fun o e => Heap.get?_push_of_some _ (k2 _ o (k1 _ o e))
theorem zip_no_len : typeLookup (.type "zip") "__len__" = pure none := by rw [typeLookup_type, builtinLookup_eq_fast]; kernel_rfl
theorem zip_no_hint : typeLookup (.type "zip") "__length_hint__" = pure none := by rw [typeLookup_type, builtinLookup_eq_fast]; kernel_rfl
theorem call_zipN {prog : Program} {w : World} {A : Around} {E : Value → Shared → Prop} {s : Shared} {ls : List Addr} {Q : Value → Shared → Prop} (hsz : ls.length ≤ sizeLine) (hl : ∀ l ∈ ls, ∃ items, s.heap.IsList l items)
    (h : ∀ h', ZNew s.heap h' ls → Q (.ref (s.heap.objs.size + ls.length + 2)) { s with heap := h' }) : wpAny (model prog w) A (call (.type "zip") (ls.map Value.ref)) Q E s := by
  refine callType_new F.called_zip (by decide) (typeCall_zipN _) (newCall_zipN _) (fun obj => args_oiN obj _) F.entry_zip_new (meets_zipN_new ls hsz) ⟨hl, fun h' Z => ?_⟩
  obtain ⟨f0, f1, e, _⟩ := Z.zn.z
  exact ⟨⟨_, e, rfl⟩, h h' Z⟩
end Br

/-! ### list(zip(*lists)) -/
namespace Br
open PySem PySem.Spec PyProof.Rows L2
section
variable {P : Program} {w : World} {A : Around} {E : Value → Shared → Prop} {s : Shared}
theorem zipN_end {z TI TO : Addr} {its ls : List Addr} {k : Nat} {Q : Option Value → Shared → Prop} (hh : A.handled = none) (D : ZApartN z TI TO its ls) (Z : ZipN s.heap z TI TO its ls k) {l0 : Addr} {items : Array Value} (hl0 : ls[0]? = some l0) (hl : s.heap.IsList l0 items) (hx : items[k]? = none)
    (hQ : ∀ h', (∀ c o, c ≠ z → c ∉ its → s.heap.get? c = some o → h'.get? c = some o) → Q none { s with heap := h' }) :
    wpAny (model P w) A (pyNext (.ref z)) Q E s := by
  obtain ⟨f0, f1, hz, hf⟩ := Z.z
  obtain ⟨i0, hi0⟩ : ∃ i, its[0]? = some i := ⟨_, List.getElem?_eq_getElem (by rw [D.len]; exact (List.getElem?_eq_some_iff.mp hl0).1)⟩
  have hit := Z.it 0 i0 l0 hi0 hl0
  have him := List.mem_of_getElem? hi0
  obtain ⟨lz, lTO, lits⟩ := D.lz l0 (List.mem_of_getElem? hl0)
  obtain ⟨iz, iTI, iTO⟩ := D.iz i0 him
  obtain ⟨rest, rfl⟩ : ∃ rest, its = i0 :: rest := by
    cases its with
    | nil => cases hi0
    | cons a r => cases hi0; exact ⟨r, rfl⟩
  have hT : s.TypeIs (.ref z) "zip" := ⟨_, hz, rfl⟩
  unfold pyNext
  refine wpAny_bind (wpAny_attempt (wpAny_callSpecial?_slot (name := Str.ofString "__next__") hT F.slot_zip_next
    (wpAny_call_entry F.slot_zip_next hT F.entry_zip_next ?_ (F.args_zip_next_1 _))))
  show wpAny _ _ (field (.ref z) 2 >>= _) _ _ _
  refine wpAny_bind (wpAny_field hz rfl (x := .bool false) rfl ?_)
  show wpAny _ _ (field (.ref z) 3 >>= _) _ _ _
  refine wpAny_bind (wpAny_field hz rfl (x := .ref TI) rfl ?_)
  refine wpAny_bind (wpAny_seqItems Z.ti rfl ?_)
  have he : ((i0 :: rest).map Value.ref).toArray.isEmpty = false := rfl
  simp only [he, Bool.false_eq_true, if_false]
  show wpAny _ _ (Builtin.SmallTypes.ownedTupleIsFree (.ref z) >>= _) _ _ _
  have free : wpAny (model P w) A.in1 (Builtin.SmallTypes.ownedTupleIsFree (.ref z)) (fun b s' => (b = true ∧ s' = s) ∨ (b = false ∧ ∃ h' f1', s' = { s with heap := h' } ∧ IsZipF h' z TI TO f0 f1' ∧ Heap.SameBut z s.heap h')) (fun _ _ => False) s := by
    unfold Builtin.SmallTypes.ownedTupleIsFree
    rcases hf with rfl | ⟨T, rfl⟩
    · exact wpAny_bind (wpAny_field hz rfl (x := .none) rfl (wpAny_pure (.inl ⟨rfl, rfl⟩)))
    · refine wpAny_bind (wpAny_field hz rfl (x := rawInt T) rfl ?_)
      show wpAny _ _ (loadIfAlive ((T : Int).toNat) >>= _) _ _ _
      refine wpAny_bind (alive_any ?_)
      cases s.heap.get? (T : Int).toNat with
      | none => exact wpAny_pure (.inl ⟨rfl, rfl⟩)
      | some o =>
        simp only [Option.isNone_some, Bool.false_eq_true, if_false]
        refine wpAny_bind (wpAny_field hz rfl (x := f1) rfl ?_)
        by_cases hb : (f1 != Value.bool true) = true
        · rw [if_pos hb]
          refine wpAny_bind (wpAny_setField_rec hz (by simp) fun h₁ hz₁ hs₁ => ?_)
          exact wpAny_pure (.inr ⟨rfl, h₁, .bool true, rfl, hz₁, hs₁⟩)
        · rw [if_neg hb]
          exact wpAny_pure (.inr ⟨rfl, s.heap, f1, rfl, hz, Heap.SameBut.refl _ _⟩)
  have stop : ∀ (h' : Heap) (e : Addr), (∃ o, h'.get? e = some o ∧ o.cls = .type "StopIteration") → (∀ c o, c ≠ z → c ∉ i0 :: rest → s.heap.get? c = some o → h'.get? c = some o) →
      wpAny (model P w) A (do if (← isInstance (.ref e) (.type "StopIteration")) = true then pure none else throw (Value.ref e)) Q E { s with heap := h' } := fun h' e he kp => by
    obtain ⟨o, ho, hc⟩ := he
    refine wpAny_bind (wpAny_isInstance (T := "StopIteration") (b := true) ⟨o, ho, hc⟩ isSubtype_stop ?_)
    exact wpAny_pure (hQ _ kp)
  refine wpAny_bind (wpAny_mono free (fun b s' hb => ?_) fun _ _ f => f.elim)
  rcases hb with ⟨rfl, hse⟩ | ⟨rfl, h₁, f1', rfl, hz₁, hs₁⟩
  · rw [hse]
    clear hse
    simp only [if_true]
    refine wpAny_bind (wpAny_rule ?_)
    refine wpAny_bind (wpAny_field hz rfl (x := .ref TO) rfl ?_)
    refine wpAny_bind (wpAny_setField_rec hz (by simp) fun h₁ hz₁ hs₁ => ?_)
    replace hz₁ : IsZipF h₁ z TI TO .ellipsis f1 := hz₁
    refine wpAny_bind ?_
    simp only [List.map_cons, List.zipIdx_cons, List.forIn_cons]
    refine wpAny_bind (wpAny_bind (wpAny_onRaise ?_))
    show wpAny _ _ (Builtin.SmallTypes.nextOf (.ref i0) >>= _) _ _ _
    refine wpAny_bind (wpAny_nextOf_list_end hh (hit.extBut hs₁.extBut iz) (hl.extBut hs₁.extBut lz) hx fun h₂ e hs₂ he => ?_)
    obtain ⟨oe, hoe, hce⟩ := he
    have hz₂ : IsZipF h₂ z TI TO .ellipsis f1 := hs₂ _ _ (Ne.symm iz) hz₁
    have hez : e ≠ z := fun x => by subst x; rw [hz₂] at hoe; cases hoe; simp at hce
    refine wpAny_setField_rec hz₂ (by simp) fun h₃ _ hs₃ => ?_
    exact stop h₃ e ⟨oe, hs₃.extBut _ _ hez hoe, hce⟩ fun c o c1 c2 x => hs₃.extBut _ _ c1 (hs₂ _ _ (fun q => c2 (q ▸ List.mem_cons_self)) (hs₁.extBut _ _ c1 x))
  · simp only [Bool.false_eq_true, if_false]
    rw [List.forIn_toArray]
    refine wpAny_bind ?_
    simp only [List.map_cons, List.forIn_cons]
    refine wpAny_bind (wpAny_bind (wpAny_holding ?_))
    show wpAny _ _ (Builtin.SmallTypes.nextOf (.ref i0) >>= _) _ _ _
    refine wpAny_bind (wpAny_nextOf_list_end hh (hit.extBut hs₁.extBut iz) (hl.extBut hs₁.extBut lz) hx fun h₂ e hs₂ he => ?_)
    exact stop h₂ e he fun c o c1 c2 x => hs₂ _ _ (fun q => c2 (q ▸ List.mem_cons_self)) (hs₁.extBut _ _ c1 x)
end
end Br

/-! ### list(zip(*lists)), in a def -/
namespace Br
open PySem PySem.Spec PyProof.Rows L2
def rowV (cols : List (List V)) (k : Nat) : List V := cols.map fun c => c.getD k .non
theorem row_at {h : Heap} {k : Nat} : ∀ {ls : List Addr} {cols : List (List V)}, ls.length = cols.length → (∀ (j : Nat) l c, ls[j]? = some l → cols[j]? = some c → ∃ (items : Array Value) (u : Value), h.IsList l items ∧ items[k]? = some u ∧ RelV (c.getD k .non) u) → ∃ xs, ColsAt h ls k xs ∧ Vals (rowV cols k) xs
  | [], [], _, _ => ⟨[], ⟨rfl, fun j l x e => by simp at e⟩, .nil⟩
  | [], _ :: _, e, _ => by simp at e
  | _ :: _, [], e, _ => by simp at e
  | l :: ls, c :: cols, e, f => by
    obtain ⟨items, u, h1, h2, h3⟩ := f 0 l c rfl rfl
    obtain ⟨xs, ⟨e1, e2⟩, hv⟩ := row_at (h := h) (k := k) (ls := ls) (cols := cols) (by simpa using e) fun j l' c' q1 q2 => f (j + 1) l' c' (by simpa using q1) (by simpa using q2)
    refine ⟨u :: xs, ⟨by simp [e1], fun j l' x q1 q2 => ?_⟩, .cons h3 hv⟩
    cases j with
    | zero => cases q1; cases q2; exact ⟨items, h1, h2⟩
    | succ j => exact e2 j l' x (by simpa using q1) (by simpa using q2)
theorem ZipN.at {h h' : Heap} {z TI TO : Addr} {its ls : List Addr} {k : Nat} (Z : ZipN h z TI TO its ls k) (kp : ∀ b o, b = z ∨ b = TI ∨ b = TO ∨ b ∈ its → h.get? b = some o → h'.get? b = some o) : ZipN h' z TI TO its ls k := by
  obtain ⟨f0, f1, e, f⟩ := Z.z
  obtain ⟨olds, e2, e3⟩ := Z.to
  exact ⟨⟨f0, f1, kp _ _ (.inl rfl) e, f⟩, kp _ _ (.inr (.inl rfl)) Z.ti, ⟨olds, kp _ _ (.inr (.inr (.inl rfl))) e2, e3⟩, fun j i l q1 q2 => (Z.it j i l q1 q2).at fun o e => kp _ _ (.inr (.inr (.inr (List.mem_of_getElem? q1)))) e⟩
theorem fp_at {X : Cx} {pins : List (Addr × Obj)} {H H' : Hp} {b : Addr} (f : FpOk X pins H b) (h : H' b = none) : FpOk X pins H' b := ⟨h, f.2⟩
section
variable {X : Cx} {pins : List (Addr × Obj)} {σ : L2.St}
theorem drainZ {z TI TO S : Addr} {its ls : List Addr} {cols : List (List V)} {m : Nat} {A : Around} {R : Result → Shared → Prop} {H0 : Hp} (hA : A.handled = none) (D : ZApartN z TI TO its ls) (hlen : ls.length = cols.length) (hne : ls ≠ []) (hsz : ls.length ≤ sizeLine) (hm : m < sizeLine) (hS0 : H0 S = none)
    (hcol : ∀ (j : Nat) l c, ls[j]? = some l → cols[j]? = some c → H0 l = some (.lst c) ∧ c.length = m)
    (hend : ∀ H' s' (Ts : List Addr), Inv X pins σ H' s' → (∀ b o, H0 b = some o → H' b = some o) → H' S = some (.lst (Ts.map V.ref)) → Ts.length = m → (∀ i T, Ts[i]? = some T → H' T = some (.tup (rowV cols i))) → R (.ok (.ret .none)) s') :
    ∀ (r k : Nat) (Ts : List Addr) (H : Hp) (s : Shared), m - k = r → k ≤ m → Inv X pins σ H s → ZipN s.heap z TI TO its ls k → (∀ b, b = z ∨ b = TI ∨ b = TO ∨ b ∈ its → FpOk X pins H b) → (∀ b o, H0 b = some o → H b = some o) → H S = some (.lst (Ts.map V.ref)) → Ts.length = k → (∀ i T, Ts[i]? = some T → H T = some (.tup (rowV cols i))) →
      codeAny (model X.prog X.w) A (.builtin "list.extend.loop" ⟨[.ref S, .ref z, .none], []⟩) R s := by
  have hits : its ≠ [] := fun q => by
    have := D.len
    rw [q] at this
    exact hne (List.length_eq_zero_iff.mp this.symm)
  have clen : cols.length ≤ sizeLine := by rw [← hlen]; exact hsz
  intro r
  induction r with
  | zero =>
    intro k Ts H s hr hk I Z hf sm hS hT hTs
    obtain rfl : k = m := by omega
    refine codeAny_builtin F.entry_extend_loop ?_
    rw [Around.under_plainId F.plain_extend_loop _]
    show wpAny _ A.in1 (pyNext (.ref z) >>= _) _ _ s
    obtain ⟨l0, hl0⟩ : ∃ l, ls[0]? = some l := by
      cases ls with
      | nil => exact absurd rfl hne
      | cons a b => exact ⟨a, rfl⟩
    obtain ⟨c0, hc0⟩ : ∃ c, cols[0]? = some c := ⟨_, List.getElem?_eq_getElem (by rw [← hlen]; exact (List.getElem?_eq_some_iff.mp hl0).1)⟩
    obtain ⟨q1, q2⟩ := hcol 0 l0 c0 hl0 hc0
    obtain ⟨_, its0, n0, rv, e0⟩ := I.hok l0 _ (sm _ _ q1)
    have hl := rv.length
    refine wpAny_bind (zipN_end (A := A.in1) hA D Z hl0 ⟨_, e0, rfl, _, rfl⟩ (by rw [Array.getElem?_eq_none_iff, List.size_toArray]; omega) fun h' kp => ?_)
    refine wpAny_pure (hend H _ Ts (I.turnedL (t' := s.toks) (ch := z :: its) (fun b o hb e => kp b o (fun q => hb (q ▸ List.mem_cons_self)) (fun q => hb (List.mem_cons_of_mem _ q)) e) fun b hb => ?_) sm hS hT hTs)
    rcases List.mem_cons.mp hb with q | q
    · exact hf b (.inl q)
    · exact hf b (.inr (.inr (.inr q)))
  | succ r ih =>
    intro k Ts H s hr hk I Z hf sm hS hT hTs
    have hkm : k < m := by omega
    obtain ⟨xs, C, hv⟩ := row_at (h := s.heap) (k := k) hlen fun j l c e1 e2 => by
      obtain ⟨q1, q2⟩ := hcol j l c e1 e2
      obtain ⟨_, its0, n0, rv, e0⟩ := I.hok l _ (sm _ _ q1)
      have hg : c[k]? = some (c.getD k .non) := by rw [List.getD_eq_getElem?_getD, List.getElem?_eq_getElem (by omega)]; rfl
      obtain ⟨u, hu, ru⟩ := rv.get hg
      exact ⟨its0.toArray, u, ⟨_, e0, rfl, _, rfl⟩, by simpa using hu, ru⟩
    refine codeAny_builtin F.entry_extend_loop ?_
    rw [Around.under_plainId F.plain_extend_loop _]
    show wpAny _ A.in1 (pyNext (.ref z) >>= _) _ _ s
    refine wpAny_bind (zipN_item (A := A.in1) D Z C hits (by rw [D.len]; exact hsz) fun h' Z' hT' hsz' kp => ?_)
    have hTn : H s.heap.objs.size = none := I.hok.fresh (Nat.le_refl _)
    have rl : (rowV cols k).length ≤ sizeLine := by unfold rowV; rw [List.length_map]; exact clen
    have I1 : Inv X pins σ (upd H s.heap.objs.size (.tup (rowV cols k))) { s with heap := h' } := I.turnedNew (t' := s.toks) (ch := z :: TO :: its) (fun b o hb e => kp b o (fun q => hb (q ▸ List.mem_cons_self)) (fun q => hb (q ▸ List.mem_cons_of_mem _ List.mem_cons_self)) (fun q => hb (List.mem_cons_of_mem _ (List.mem_cons_of_mem _ q))) e)
      (fun b hb => by
        rcases List.mem_cons.mp hb with q | q
        · exact hf b (.inl q)
        · rcases List.mem_cons.mp q with q | q
          · exact hf b (.inr (.inr (.inl q)))
          · exact hf b (.inr (.inr (.inr q)))) (Nat.le_refl _) ⟨rl, xs, hv, ⟨_, hT', rfl, _, rfl⟩⟩
    -- the objects of the zip lie below
    have lo : ∀ b, b = z ∨ b = TI ∨ b = TO ∨ b ∈ its → b < s.heap.objs.size := fun b hb => by
      rcases hb with q | q | q | q
      · obtain ⟨_, _, e, _⟩ := Z.z; exact q ▸ Heap.lt_size e
      · exact q ▸ Heap.lt_size Z.ti
      · obtain ⟨_, e, _⟩ := Z.to; exact q ▸ Heap.lt_size e
      · obtain ⟨j, hj, rfl⟩ := List.mem_iff_getElem.mp q
        obtain ⟨l, hl⟩ : ∃ l, ls[j]? = some l := ⟨_, List.getElem?_eq_getElem (by rw [← D.len]; exact hj)⟩
        obtain ⟨_, e, _⟩ := Z.it j _ l (List.getElem?_eq_getElem hj) hl
        exact Heap.lt_size e
    generalize s.heap.objs.size = T at hTn I1 hT' hsz' lo ⊢
    have hST : S ≠ T := fun q => by rw [q, hTn] at hS; cases hS
    have f1 : ∀ b, b = z ∨ b = TI ∨ b = TO ∨ b ∈ its → FpOk X pins (upd H T (.tup (rowV cols k))) b := fun b hb => fp_at (hf b hb) (by rw [upd_ne (Nat.ne_of_lt (lo b hb))]; exact (hf b hb).1)
    have hS1 : (upd H T (.tup (rowV cols k))) S = some (.lst (Ts.map V.ref)) := by rw [upd_ne hST]; exact hS
    have sm1 : ∀ b o, H0 b = some o → (upd H T (.tup (rowV cols k))) b = some o := fun b o e => by
      rw [upd_ne (fun q => by have := sm b o e; rw [q, hTn] at this; cases this)]
      exact sm b o e
    have hTs1 : ∀ i T', Ts[i]? = some T' → (upd H T (.tup (rowV cols k))) T' = some (.tup (rowV cols i)) := fun i T' e => by
      rw [upd_ne (fun q => by have := hTs i T' e; rw [q, hTn] at this; cases this)]
      exact hTs i T' e
    have hTT : (upd H T (.tup (rowV cols k))) T = some (.tup (rowV cols k)) := upd_same
    generalize upd H T (.tup (rowV cols k)) = H1 at I1 f1 hS1 sm1 hTs1 hTT
    obtain ⟨_, lits, nn, rS, hlS, eS⟩ := I1.lstM hS1
    have hl1 : lits.length = k := by rw [← hlS, List.length_map, hT]
    show wpAny _ A.in1 (updateSeq S (·.push (.ref T)) >>= _) _ _ _
    refine wpAny_bind ?_
    have I2 : Inv X pins σ (upd H1 S (.lst ((Ts ++ [T]).map V.ref))) { s with heap := h'.update S (Obj.mapSeq (·.push (.ref T))) } := Inv.lset (s := { s with heap := h' }) (t' := s.toks) (its' := lits ++ [.ref T]) I1 hS1 eS (by simp) (by rw [List.map_append]; exact rS.append (.cons rfl .nil)) (by rw [List.length_map, List.length_append, hT]; show k + 1 ≤ _; omega)
    have nS : ∀ b, b = z ∨ b = TI ∨ b = TO ∨ b ∈ its → b ≠ S := fun b hb q => by
      have := (f1 b hb).1
      rw [q, hS1] at this; cases this
    have kS : ∀ b o, b ≠ S → h'.get? b = some o → (h'.update S (Obj.mapSeq (·.push (.ref T)))).get? b = some o := fun b o hb e => (Heap.get?_update_other h' _ (Ne.symm hb)).trans e
    refine wpAny_updateSeq eS rfl (wpAny_pure ⟨plainId_quiet F.plain_extend_loop _, ih (k + 1) (Ts ++ [T]) _ _ (by omega) hkm I2 (Z'.at fun b o hb e => kS b o (nS b hb) e) (fun b hb => fp_at (f1 b hb) (by rw [upd_ne (nS b hb)]; exact (f1 b hb).1)) (fun b o e => ?_) upd_same (by rw [List.length_append, hT]; rfl) fun i T' e => ?_⟩)
      (by rw [List.size_toArray]; omega) (by show (lits.toArray.push _).size ≤ sizeLine + 1; rw [Array.size_push, List.size_toArray]; omega)
    · rw [upd_ne (fun q => by rw [q, hS0] at e; cases e)]
      exact sm1 b o e
    · have hTS : H1 T' = some (.tup (rowV cols i)) := by
        by_cases q : i < Ts.length
        · rw [List.getElem?_append_left q] at e
          exact hTs1 i T' e
        · rw [List.getElem?_append_right (by omega)] at e
          have hi : i = Ts.length := by
            have := (List.getElem?_eq_some_iff.mp e).1
            simp at this
            omega
          subst hi
          rw [Nat.sub_self] at e
          cases e
          rw [hT]
          exact hTT
      rw [upd_ne (fun q => by rw [q, hS1] at hTS; cases hTS)]
      exact hTS
end
end Br

/-! ### the rule -/
namespace Br
open PySem PySem.Spec PyProof.Rows L2
theorem vals_refs : ∀ {ls : List Addr} {us : List Value}, Vals (ls.map V.ref) us → us = ls.map Value.ref
  | [], us, h => by cases h; rfl
  | a :: ls, us, h => by
    rw [List.map_cons] at h
    cases h with
    | cons r t =>
      cases r
      rw [vals_refs t, List.map_cons]
theorem zipF_iter {prog : Program} {w : World} {A : Around} {E : Value → Shared → Prop} {s : Shared} {z TI TO : Addr} {f0 f1 : Value} {Q : Value → Shared → Prop} (hz : IsZipF s.heap z TI TO f0 f1) (h : Q (.ref z) s) : wpAny (model prog w) A (pyIter (.ref z)) Q E s := by
  have hT : s.TypeIs (.ref z) "zip" := ⟨_, hz, rfl⟩
  refine wpAny_pyIter_slot hT F.slot_zip_iter (wpAny_call_entry F.slot_zip_iter hT F.entry_zip_iter ?_ (F.args_zip_iter_1 _))
  show wpAny _ _ (ret (.ref z)) _ _ s
  exact wpAny_pure ⟨_, rfl, "zip", _, hT, F.slot_zip_next.lookup, h⟩
def tListZip (K : PySem.W.Frag) (te : TE) : TE := fun σ H Q => te σ H fun y H1 => ∃ (a : Addr) (ls : List Addr) (cols : List (List V)) (m : Nat), y = .ref a ∧ SqL K H1 a (ls.map V.ref) ∧ ls ≠ [] ∧ ls.length = cols.length ∧ ls.length ≤ sizeLine ∧ m < sizeLine ∧
  (∀ (j : Nat) l c, ls[j]? = some l → cols[j]? = some c → H1 l = some (.lst c) ∧ c.length = m) ∧
  ∀ p H2 (Ts : List Addr), H1 p = none → (∀ b o, H1 b = some o → H2 b = some o) → H2 p = some (.lst (Ts.map V.ref)) → Ts.length = m → (∀ i T, Ts[i]? = some T → H2 T = some (.tup (rowV cols i))) → Q (.ref p) H2
theorem pe_listZip {X : Cx} {e : Expr} {te : TE} {lp zp sp zpos pos : Pos} (hc : X.calm = true) (hg : Gl X "list") (hm : X.mg "list" = none) (hgz : Gl X "zip") (hmz : X.mg "zip" = none) (he : PE X e te) :
    PE X (.Call (.Name "list" lp) [.Call (.Name "zip" zp) [.Starred e sp] [] zpos] [] pos) (tListZip X.K te) := by
  refine ⟨fun pins s σ H Q I h => ?_⟩
  refine Call_ (ld_blt I hg hm PyProof.Rows.boot_list (PyProof.Rows.callWith_type1 ?_ rfl rfl))
  show wpAny _ _ (spliced ((false, eval (.Call (.Name "zip" zp) [.Starred e sp] [] zpos) X.env) :: backTo pos (starEach [] X.env))) _ _ s
  refine Calls.spliced_cons (Call_ (ld_blt I hgz hmz PyProof.Rows.boot_zip ?_))
  show wpAny _ _ (callWith zpos (.type "zip") [] (backTo zpos [(true, eval e X.env)]) []) _ _ s
  refine PySem.W.ks_call (P := fun _ => True) rfl (fun h _ => ⟨.machine, .inr (.inl rfl), PySem.W.Looks.of_pure rfl⟩) (PySem.W.ks_lone (thn (he.run pins s σ H _ I h) fun v s1 ⟨y, H1, I1, ry, q⟩ => ?_))
  obtain ⟨a, ls, cols, m, rfl, hx, hne, hlen, hsz, hms, hcol, q⟩ := q
  obtain rfl : v = Value.ref a := ry
  refine StX.star_lst I1 hx fun us s2 I2 rv => ⟨trivial, ?_⟩
  rw [vals_refs rv]
  show wpAny _ _ (call (.type "zip") (ls.map Value.ref)) _ _ s2
  have hlist : ∀ l ∈ ls, ∃ c, H1 l = some (.lst c) := fun l hl => by
    obtain ⟨j, hj, rfl⟩ := List.mem_iff_getElem.mp hl
    obtain ⟨c, hc'⟩ : ∃ c, cols[j]? = some c := ⟨_, List.getElem?_eq_getElem (by rw [← hlen]; exact hj)⟩
    exact ⟨c, (hcol j _ c (List.getElem?_eq_getElem hj) hc').1⟩
  refine call_zipN hsz (fun l hl => ?_) fun h' Z => ?_
  · obtain ⟨c, e1⟩ := hlist l hl
    obtain ⟨_, its0, n0, rv0, e0⟩ := I2.hok l _ e1
    exact ⟨_, _, e0, rfl, _, rfl⟩
  have I3 : Inv X pins σ H1 { s2 with heap := h' } := I2.kept (t' := s2.toks) Z.kp
  have hfr : ∀ b, s2.heap.objs.size ≤ b → FpOk X pins H1 b := fun b hb => I2.fpOk hb (I2.hok.fresh hb)
  have llt : ∀ l ∈ ls, l < s2.heap.objs.size := fun l hl => by
    obtain ⟨c, e1⟩ := hlist l hl
    exact I2.hok.lt e1
  have hzn := Z.zn
  have hszz := Z.sz
  generalize hN : s2.heap.objs.size = N at hzn hszz hfr llt
  have memI : ∀ b, b ∈ (List.range ls.length).map (N + ·) → N ≤ b ∧ b < N + ls.length := fun b hb => by
    obtain ⟨j, hj, rfl⟩ := List.mem_map.mp hb
    have := List.mem_range.mp hj
    exact ⟨Nat.le_add_right _ _, Nat.add_lt_add_left this _⟩
  have D : ZApartN (N + ls.length + 2) (N + ls.length) (N + ls.length + 1) ((List.range ls.length).map (N + ·)) ls := by
    have ne : ∀ {x y : Nat}, x < y → x ≠ y := fun h => Nat.ne_of_lt h
    refine ⟨ne (show N + ls.length < N + ls.length + 2 by omega), ne (show N + ls.length + 1 < N + ls.length + 2 by omega), ne (show N + ls.length < N + ls.length + 1 by omega), fun i hi => ?_, ?_, fun l hl => ?_, by rw [List.length_map, List.length_range]⟩
    · obtain ⟨h1, h2⟩ := memI i hi
      exact ⟨ne (Nat.lt_of_lt_of_le h2 (show N + ls.length ≤ N + ls.length + 2 by omega)), ne h2, ne (Nat.lt_of_lt_of_le h2 (show N + ls.length ≤ N + ls.length + 1 by omega))⟩
    · exact List.nodup_iff_pairwise_ne.mpr (List.pairwise_map.mpr (List.Pairwise.imp (fun h q => h (Nat.add_left_cancel q)) (List.nodup_iff_pairwise_ne.mp List.nodup_range)))
    · have h1 := llt l hl
      exact ⟨ne (Nat.lt_of_lt_of_le h1 (show N ≤ N + ls.length + 2 by omega)), ne (Nat.lt_of_lt_of_le h1 (show N ≤ N + ls.length + 1 by omega)), fun hi => absurd (memI l hi).1 (Nat.not_le_of_lt h1)⟩
  generalize hits : (List.range ls.length).map (N + ·) = its at hzn memI D
  have hf : ∀ b, b = N + ls.length + 2 ∨ b = N + ls.length ∨ b = N + ls.length + 1 ∨ b ∈ its → FpOk X pins H1 b ∧ b < h'.objs.size := fun b hb => by
    rw [hszz]
    rcases hb with q | q | q | q
    · rw [q]; exact ⟨hfr _ (show N ≤ N + ls.length + 2 by omega), show N + ls.length + 2 < N + ls.length + 3 by omega⟩
    · rw [q]; exact ⟨hfr _ (show N ≤ N + ls.length by omega), show N + ls.length < N + ls.length + 3 by omega⟩
    · rw [q]; exact ⟨hfr _ (show N ≤ N + ls.length + 1 by omega), show N + ls.length + 1 < N + ls.length + 3 by omega⟩
    · obtain ⟨h1, h2⟩ := memI b q
      exact ⟨hfr _ h1, Nat.lt_of_lt_of_le h2 (show N + ls.length ≤ N + ls.length + 3 by omega)⟩
  generalize N + ls.length + 2 = z at hzn D hf ⊢
  generalize N + ls.length = TI at hzn D hf
  generalize TI + 1 = TO at hzn D hf
  -- list(z)
  refine Calls.spliced_nil ?_
  generalize hs3 : ({ s2 with heap := h' } : Shared) = s3 at I3
  have e3 : s3.heap = h' := by rw [← hs3]
  rw [← e3] at hzn hf
  obtain ⟨f0, f1, ez, _⟩ := hzn.z
  refine callType_codes (Q₁ := fun obj s₁ => obj = .ref s3.heap.objs.size ∧ s₁ = { s3 with heap := s3.heap.push { cls := .type "list", data := .seq #[] } }) F.called_list (F.typeCall_list_1 _) F.entry_list_init (code_list_new _ ⟨rfl, rfl⟩) fun obj s₁ h₁ => ?_
  obtain ⟨rfl, rfl⟩ := h₁
  have hSn : H1 s3.heap.objs.size = none := I3.hok.fresh (Nat.le_refl _)
  have hS : (s3.heap.push { cls := .type "list", data := .seq #[] }).get? s3.heap.objs.size = some { cls := .type "list", data := .seq #[] } := Heap.get?_push_size _ rfl
  refine ⟨⟨_, hS, rfl⟩, F.args_list_init_2 _ _, ?_⟩
  have old : ∀ b o, s3.heap.get? b = some o → (s3.heap.push { cls := .type "list", data := .seq #[] }).get? b = some o := fun b o e => Heap.get?_push_of_some _ e
  have bS : ∀ b o, s3.heap.get? b = some o → b ≠ s3.heap.objs.size := fun b o e => Nat.ne_of_lt (Heap.lt_size e)
  have laid : ∀ (h2 : Heap) (c : Nat) (tk : Nat), (∀ b o, s3.heap.get? b = some o → h2.get? b = some o) → h2.get? s3.heap.objs.size = some { cls := .type "list", data := .seq #[] c } → Inv X pins σ (upd H1 s3.heap.objs.size (.lst [])) { s3 with heap := h2, toks := tk } := fun h2 c tk k1 k2 =>
    I3.laid (t' := tk) k1 (Nat.le_refl _) ⟨Nat.zero_le _, [], c, .nil, k2⟩
  generalize hSS : s3.heap.objs.size = S at hSn hS bS laid ⊢
  have zS : z ≠ S := bS z _ ez
  show wpAny _ _ (do let old ← Builtin.List.listItems (.ref S); Builtin.List.listUpdate (.ref S) (fun _ => #[]); letGo old.toList.reverse; Builtin.List.listExtendWith (.ref S) (.ref z) .none) _ _ _
  refine wpAny_bind ?_
  unfold Builtin.List.listItems
  refine wpAny_bind (wpAny_seqItems hS rfl (wpAny_pure ?_))
  show wpAny _ _ (updateSeq S (fun _ => #[]) >>= fun _ => letGo (#[] : Array Value).toList.reverse >>= fun _ => Builtin.List.listExtendWith (.ref S) (.ref z) .none) _ _ _
  refine wpAny_bind (wpAny_updateSeq hS rfl ?_)
  have hS₂ := Heap.get?_update_self (Obj.mapSeq (fun _ => (#[] : Array Value))) hS rfl
  have oth : ∀ b o, s3.heap.get? b = some o → ((s3.heap.push { cls := .type "list", data := .seq #[] }).update S (Obj.mapSeq (fun _ => (#[] : Array Value)))).get? b = some o :=
    fun b o e => (Heap.get?_update_other _ _ (Ne.symm (bS b o e))).trans (old b o e)
  generalize (s3.heap.push { cls := .type "list", data := .seq #[] }).update S (Obj.mapSeq (fun _ => (#[] : Array Value))) = h4 at hS₂ oth ⊢
  refine wpAny_bind (wpAny_letGo ?_)
  have tz : ∀ (h5 : Heap), (∀ b o, s3.heap.get? b = some o → h5.get? b = some o) → ({ s3 with heap := h5 } : Shared).TypeIs (.ref z) "zip" := fun h5 k => ⟨_, k _ _ ez, rfl⟩
  unfold Builtin.List.listExtendWith
  refine wpAny_bind (wpAny_typeOf (tz h4 oth) ?_)
  have h1 : Builtin.List.listSameRef (.ref S) (.ref z) = false := by simp [Builtin.List.listSameRef, Ne.symm zS]
  have h2 : (Value.type "zip" == Value.type "list") = false := by decide
  have h3 : (Value.type "zip" == Value.type "tuple") = false := by decide
  simp only [h1, h2, h3, Bool.or_false, Bool.false_eq_true, if_false]
  refine wpAny_bind (zipF_iter (oth _ _ ez) ?_)
  refine wpAny_bind (wpAny_holding ?_)
  unfold Builtin.List.listLengthHint
  refine wpAny_bind (wpAny_specialOf (tz h4 oth) zip_no_len ?_)
  show wpAny _ _ (specialOf (Value.ref z) (Str.ofString "__length_hint__") >>= _) _ _ _
  refine wpAny_bind (wpAny_specialOf (tz h4 oth) zip_no_hint ?_)
  refine wpAny_pure ?_
  show wpAny _ _ (rule "list.extend.makes-room" >>= fun _ => Builtin.List.listTouch (.ref S) >>= fun _ =>
    again (.builtin "list.extend.loop" ⟨[.ref S, .ref z, .none], []⟩)) _ _ _
  refine wpAny_bind (wpAny_rule ?_)
  refine wpAny_bind ?_
  show wpAny _ _ (updateSeq S (·.push .none) >>= fun _ => updateSeq S (·.pop)) _ _ _
  refine wpAny_bind (wpAny_updateSeq hS₂ rfl ?_)
  have hS₃ := Heap.get?_update_self (Obj.mapSeq (·.push Value.none)) hS₂ rfl
  refine wpAny_updateSeq (hz := by seq_fits) hS₃ rfl ?_
  have hS₄ := Heap.get?_update_self (Obj.mapSeq (·.pop)) hS₃ rfl
  have oth2 : ∀ b o, s3.heap.get? b = some o → ((h4.update S (Obj.mapSeq (·.push Value.none))).update S (Obj.mapSeq (·.pop))).get? b = some o :=
    fun b o e => (Heap.get?_update_other _ _ (Ne.symm (bS b o e))).trans ((Heap.get?_update_other _ _ (Ne.symm (bS b o e))).trans (oth b o e))
  generalize (h4.update S (Obj.mapSeq (·.push Value.none))).update S (Obj.mapSeq (·.pop)) = h6 at hS₄ oth2 ⊢
  refine wpAny_pure ⟨plainId_quiet F.plain_extend_loop _, drainZ (A := X.A.in1) (H0 := H1) (m := m) (I3.ok.hd hc) D hlen hne hsz hms hSn hcol (fun H' s' Ts I' sm' hS' hT' hTs' => ?_) m 0 [] (upd H1 S (.lst [])) _ (Nat.sub_zero m) (Nat.zero_le _) (laid h6 _ _ oth2 hS₄) (hzn.at fun b o _ e => oth2 b o e) (fun b hb => ?_) (fun b o e => ?_) upd_same rfl fun i T e => by simp at e⟩
  · exact ⟨rfl, .ref S, H', I', rfl, q S H' Ts hSn sm' hS' hT' hTs'⟩
  · obtain ⟨q1, q2⟩ := hf b hb
    exact fp_at q1 (by rw [upd_ne (Nat.ne_of_lt (Nat.lt_of_lt_of_eq q2 hSS))]; exact q1.1)
  · rw [upd_ne (fun q => by rw [q, hSn] at e; cases e)]
    exact e
end Br

/-! ### for p in zip(xs, ys), the pair kept -/
namespace Br
open PySem PySem.Spec PyProof.Rows L2
def ItzP (K : PySem.W.Frag) (a b : Addr) : It :=
  ⟨fun i H => ∃ (xs ys : List V) (x y : V), SqL K H a xs ∧ SqL K H b ys ∧ xs[i]? = some x ∧ ys[i]? = some y,
    fun i H v H' => ∃ T x y, v = .ref T ∧ H T = none ∧ H' = upd H T (.tup [x, y]) ∧ (∀ xs, SqL K H a xs → xs[i]? = some x) ∧ ∀ ys, SqL K H b ys → ys[i]? = some y,
    fun i H => ∃ xs : List V, SqL K H a xs ∧ xs.length ≤ i⟩
theorem turn_zipP {P : Program} {w : World} {K : PySem.W.Frag} {nm : Str} {np : Pos} {a b z TI TO i1 i2 : Addr} (D : ZApartN z TI TO [i1, i2] [a, b]) :
    Turn P w K (.Name nm np) (ItzP K a b) [z, TI, TO, i1, i2] z (fun i h => ZipN h z TI TO [i1, i2] [a, b] i) where
  mem := by simp
  obj := fun i h Z c hc => by
    obtain ⟨_, _, ez, _⟩ := Z.z
    obtain ⟨_, eo, _⟩ := Z.to
    obtain ⟨o1, e1, _, d1⟩ := Z.it 0 i1 a rfl rfl
    obtain ⟨o2, e2, _, d2⟩ := Z.it 1 i2 b rfl rfl
    have e' : c = z ∨ c = TI ∨ c = TO ∨ c = i1 ∨ c = i2 := by simpa using hc
    rcases e' with q | q | q | q | q
    · rw [q]; exact ⟨_, ez, fun v q => nomatch q⟩
    · rw [q]; exact ⟨_, Z.ti, fun v q => nomatch q⟩
    · rw [q]; exact ⟨_, eo, fun v q => nomatch q⟩
    · rw [q]; exact ⟨o1, e1, fun v q => by rw [d1] at q; cases q⟩
    · rw [q]; exact ⟨o2, e2, fun v q => by rw [d2] at q; cases q⟩
  keep := fun i h h' Z k => Z.at fun c o hc e => k c (by simpa using hc) o e
  item := by
    intro X hP hw hK hc i pins s σ H E I hf Z hg
    subst hP hw hK
    obtain ⟨xs, ys, x, y, hqx, hqy, hx, hy⟩ := hg
    obtain ⟨its, rv, p, _⟩ := I.list hqx
    obtain ⟨its2, rv2, p2, _⟩ := I.list hqy
    obtain ⟨u, hu, ru⟩ := rv.get hx
    obtain ⟨u2, hu2, ru2⟩ := rv2.get hy
    have C : ColsAt s.heap [a, b] i [u, u2] := ⟨rfl, fun j l v e1 e2 => by
      match j, e1, e2 with
      | 0, e1, e2 => cases e1; cases e2; exact ⟨_, p.isList, by simpa using hu⟩
      | 1, e1, e2 => cases e1; cases e2; exact ⟨_, p2.isList, by simpa using hu2⟩
      | j + 2, e1, _ => simp at e1⟩
    refine zipN_item D Z C (by simp) (by show 2 ≤ sizeLine; decide) fun h' Z' hT hsz kp => ?_
    refine ⟨_, rfl, ?_⟩
    show wpAny _ _ (pure ()) _ _ _
    refine wpAny_pure ?_
    have I1 : Inv X pins σ (upd H s.heap.objs.size (.tup [x, y])) { s with heap := h' } :=
      I.turnedNew (t' := s.toks) (ch := [z, TI, TO, i1, i2]) (fun c o hb q => kp c o (fun q' => hb (by simp [q'])) (fun q' => hb (by simp [q'])) (fun q' => hb (by simp at q'; rcases q' with r | r <;> simp [r])) q) hf (Nat.le_refl _) ⟨by show 2 ≤ sizeLine; decide, [u, u2], .cons ru (.cons ru2 .nil), ⟨_, hT, rfl, _, rfl⟩⟩
    refine ⟨.ref s.heap.objs.size, _, I1, rfl, ⟨_, x, y, rfl, I.hok.fresh (Nat.le_refl _), rfl, fun l hl => by rw [I.list_inj hl hqx]; exact hx, fun l hl => by rw [I.list_inj hl hqy]; exact hy⟩, Z', fun c hcm => ?_⟩
    have hlt : c < s.heap.objs.size := by
      obtain ⟨_, _, ez, _⟩ := Z.z
      obtain ⟨_, eo, _⟩ := Z.to
      obtain ⟨o1, e1, _, d1⟩ := Z.it 0 i1 a rfl rfl
      obtain ⟨o2, e2, _, d2⟩ := Z.it 1 i2 b rfl rfl
      have e' : c = z ∨ c = TI ∨ c = TO ∨ c = i1 ∨ c = i2 := by simpa using hcm
      rcases e' with q | q | q | q | q
      · rw [q]; exact Heap.lt_size ez
      · rw [q]; exact Heap.lt_size Z.ti
      · rw [q]; exact Heap.lt_size eo
      · rw [q]; exact Heap.lt_size e1
      · rw [q]; exact Heap.lt_size e2
    rw [upd_ne (Nat.ne_of_lt hlt)]
    exact (hf c hcm).1
  done := by
    intro X hP hw hK hc i pins s σ H E I hf Z hg
    subst hP hw hK
    obtain ⟨xs, hqx, hend⟩ := hg
    obtain ⟨its, rv, p, _⟩ := I.list hqx
    have l1 := rv.length
    exact zipN_end (I.ok.hd hc) D Z (l0 := a) rfl p.isList (by rw [Array.getElem?_eq_none_iff, List.size_toArray]; omega) fun h' hk => ⟨rfl, I.turnedL (t' := s.toks) (ch := [z, TI, TO, i1, i2]) (fun c o hb q =>
      hk c o (fun q' => hb (by simp [q'])) (fun q' => hb (by simp at q'; rcases q' with r | r <;> simp [r])) q) hf⟩
  self := fun A i s Q E Z h => by
    obtain ⟨_, _, ez, _⟩ := Z.z
    exact zipF_iter ez h
def iZipP (K : PySem.W.Frag) (ta : TA) : TI := fun σ H R => ta σ H fun vs H1 => ∃ a b xs ys, vs = [.ref a, .ref b] ∧ SqL K H1 a xs ∧ SqL K H1 b ys ∧ R (ItzP K a b) H1
theorem pi_zipP {X : Cx} {e e2 : Expr} {ta : TA} {p pos : Pos} {nm : Str} {np : Pos} (hg : Gl X "zip") (hm : X.mg "zip" = none) (ha : PA X [e, e2] ta)
    (hs : starEach [e, e2] X.env = (false, eval e X.env) :: starEach [e2] X.env := by rfl) (hpl : (backTo pos (starEach [e2] X.env)).any (·.1) = false := by rfl) :
    PI X (.Name nm np) (.Call (.Name "zip" p) [e, e2] [] pos) (iZipP X.K ta) := by
  refine ⟨fun pins s σ H R I h => ?_⟩
  refine Call_ (ld_blt I hg hm PyProof.Rows.boot_zip (PyProof.Rows.callWith_type1 (thn (ha.run pos pins s σ H _ I h) fun us s1 ⟨vs, H1, I1, r1, q1⟩ => ?_) hs hpl))
  obtain ⟨a, b, xs, ys, ex, hqx, hqy, q⟩ := q1
  subst ex
  rw [vals_refs (ls := [a, b]) r1]
  obtain ⟨its, rv, p1, _⟩ := I1.list hqx
  obtain ⟨its2, rv2, p2, _⟩ := I1.list hqy
  have la : a < s1.heap.objs.size := p1.lt
  have lb : b < s1.heap.objs.size := p2.lt
  refine call_zipN (ls := [a, b]) (by show 2 ≤ sizeLine; decide) (fun l hl => ?_) fun h' Z => ?_
  · simp at hl
    rcases hl with q | q
    · rw [q]; exact ⟨_, p1.isList⟩
    · rw [q]; exact ⟨_, p2.isList⟩
  obtain ⟨f0, f1, ez, _⟩ := Z.zn.z
  refine zipF_iter ez ?_
  have I2 : Inv X pins σ H1 { s1 with heap := h' } := I1.kept (t' := s1.toks) Z.kp
  have eI : (List.range [a, b].length).map (s1.heap.objs.size + ·) = [s1.heap.objs.size, s1.heap.objs.size + 1] := rfl
  have zn := Z.zn
  rw [eI] at zn
  have fr : ∀ c, s1.heap.objs.size ≤ c → FpOk X pins H1 c := fun c hc => I1.fpOk hc (I1.hok.fresh hc)
  generalize s1.heap.objs.size = N at zn la lb fr ⊢
  have ne : ∀ {x y : Nat}, x < y → x ≠ y := fun h => Nat.ne_of_lt h
  refine ⟨N + 2 + 2, [N + 2 + 2, N + 2, N + 2 + 1, N, N + 1], _, _, H1, rfl, I2, turn_zipP (i1 := N) (i2 := N + 1) (TI := N + 2) (TO := N + 2 + 1) (a := a) (b := b) ?_, zn, fun c hcm => fr c ?_, q⟩
  · refine ⟨ne (show N + 2 < N + 2 + 2 by omega), ne (show N + 2 + 1 < N + 2 + 2 by omega), ne (show N + 2 < N + 2 + 1 by omega), fun i hi => ?_, ?_, fun l hl => ?_, rfl⟩
    · simp at hi
      rcases hi with q | q
      · rw [q]; exact ⟨ne (show N < N + 2 + 2 by omega), ne (show N < N + 2 by omega), ne (show N < N + 2 + 1 by omega)⟩
      · rw [q]; exact ⟨ne (show N + 1 < N + 2 + 2 by omega), ne (show N + 1 < N + 2 by omega), ne (show N + 1 < N + 2 + 1 by omega)⟩
    · simp
    · have h1 : l < N := by
        simp at hl
        rcases hl with q | q
        · rw [q]; exact la
        · rw [q]; exact lb
      refine ⟨ne (Nat.lt_of_lt_of_le h1 (show N ≤ N + 2 + 2 by omega)), ne (Nat.lt_of_lt_of_le h1 (show N ≤ N + 2 + 1 by omega)), fun hi => ?_⟩
      simp at hi
      rcases hi with q | q
      · exact ne h1 q
      · exact ne (Nat.lt_of_lt_of_le h1 (show N ≤ N + 1 by omega)) q
  · simp at hcm
    rcases hcm with q | q | q | q | q
    · rw [q]; exact (show N ≤ N + 2 + 2 by omega)
    · rw [q]; exact (show N ≤ N + 2 by omega)
    · rw [q]; exact (show N ≤ N + 2 + 1 by omega)
    · rw [q]; exact Nat.le_refl _
    · rw [q]; exact (show N ≤ N + 1 by omega)
theorem walk_zipP {K : PySem.W.Frag} {a b : Addr} {xs ys : List V} (hn : xs.length = ys.length) : Walk (ItzP K a b) xs.length (fun H => SqL K H a xs ∧ SqL K H b ys) (YPair (fun i => xs[i]?) (fun i => ys[i]?)) := by
  refine ⟨fun i _ hi q => ?_, fun _ q => ⟨xs, q.1, Nat.le_refl _⟩, fun i H v H' _ q y => ?_⟩
  · have h2 : i < ys.length := by omega
    exact ⟨xs, ys, xs[i], ys[i], q.1, q.2, by simp [hi], by simp [h2]⟩
  · obtain ⟨T, x, z, h1, h2, h3, h4, h5⟩ := y
    exact ⟨T, x, z, h1, h2, h3, h4 xs q.1, h5 ys q.2⟩
end Br

/-! ### comprehensions over zips of ints -/
namespace Br
open PySem PySem.Spec PyProof.Rows L2
theorem x_zipPre {K : PySem.W.Frag} {ta : TA} {g : TG} {tt : TT} {te : TE} {vs : List Nat} {σ : L2.St} {H : Hp} {Q : VK} (h : ta σ H fun vs1 H1 => tLc (iZip K fun _ H R => R vs1 H) g tt te vs σ H1 Q) : tLc (iZip K ta) g tt te vs σ H Q := h
theorem x_zipPreP {K : PySem.W.Frag} {ta : TA} {g : TG} {tt : TT} {te : TE} {vs : List Nat} {σ : L2.St} {H : Hp} {Q : VK} (h : ta σ H fun vs1 H1 => tLc (iZipP K fun _ H R => R vs1 H) g tt te vs σ H1 Q) : tLc (iZipP K ta) g tt te vs σ H Q := h
theorem zw_snoc {α : Type} {l : List α} {k : Nat} {x : α} (h : l[k]? = some x) : l.take k ++ [x] = l.take (k + 1) := by
  rw [List.take_succ, h]; rfl
theorem zw_get {xs ys : List Int} {f : Int → Int → Int} {k : Nat} {x y : Int} (h1 : xs[k]? = some x) (h2 : ys[k]? = some y) : (List.zipWith f xs ys)[k]? = some (f x y) := by
  rw [List.getElem?_zipWith, h1, h2]
theorem x_zipLL {K : PySem.W.Frag} {te : TE} {vs : List Nat} {i j : Nat} {Q : VK} {σ : L2.St} {H : Hp} {a b : Addr} {xs ys : List Int} (f : Int → Int → Int) (ha : H a = some (.lst (xs.map V.int))) (hb : H b = some (.lst (ys.map V.int))) (hl : xs.length = ys.length) (hn : xs.length ≤ 100000)
    (hv : ∀ x y, wipe (((wipe σ vs).set i (some x)).set j (some y)) vs = wipe σ vs)
    (he : ∀ (k : Nat) x y H' (R : VK), Same H H' → xs[k]? = some x → ys[k]? = some y → R (.int (f x y)) H' → te (((wipe σ vs).set i (some (.int x))).set j (some (.int y))) H' R)
    (hd : ∀ p H', H p = none → Same H H' → H' p = some (.lst ((List.zipWith f xs ys).map V.int)) → Q (.ref p) H') : tLc (iZip K fun _ H R => R [.ref a, .ref b] H) (gTup K 2 (gCons (gName i) (gCons (gName j) gNil))) tYes te vs σ H Q := by
  have hz : (List.zipWith f xs ys).length = xs.length := by rw [List.length_zipWith, hl, Nat.min_self]
  refine x_lcI (J := Itz K a b) (n := xs.length) (fun R k => ⟨a, b, _, _, rfl, sq_of ha, sq_of hb, k⟩) (walk_zip (xs := xs.map V.int) (ys := ys.map V.int) (by rw [List.length_map, List.length_map, hl, Nat.min_self])) (fun o k H' => Same H H' ∧ H' o = some (.lst (((List.zipWith f xs ys).take k).map V.int))) (fun o ho => ⟨same_upd ho, upd_same⟩) (fun o k H' _ _ q => ⟨sq_of (q.1 _ _ ha), sq_of (q.1 _ _ hb)⟩) ?_ ?_ ?_
  · rintro o k _ H' H2 hk ho ⟨hs, hw⟩ ⟨p, u, v, rfl, hp, rfl, gu, gv⟩
    obtain ⟨y, gy, rfl⟩ := map_get gu
    obtain ⟨z, gz, rfl⟩ := map_get gv
    refine x_gTup2 (st_of upd_same) ⟨hv _ _, ?_⟩
    have hpo : o ≠ p := ne_of_none hw hp
    refine he k y z _ _ (hs.trans (same_upd hp)) gy gz ?_
    refine ⟨_, by rw [upd_ne hpo]; exact hw, ?_, sput (hs.trans (same_upd hp)) ho, ?_⟩
    · rw [List.length_map, List.length_take, hz]
      exact Nat.lt_of_le_of_lt (Nat.min_le_right _ _) (Nat.lt_of_le_of_lt hn (by decide))
    · rw [upd_same]
      have := zw_snoc (zw_get (f := f) gy gz)
      rw [← this, List.map_append]
      rfl
  · intro x σ' H' R R' hRR hg
    obtain ⟨p, xs, e, h1, h2, v, r', e2, w, r2, e3, e4, h3⟩ := hg
    exact ⟨p, xs, e, h1, h2, v, r', e2, w, r2, e3, e4, hRR _ _ h3⟩
  · rintro o H' ho ⟨hs, hw⟩
    refine hd o H' ho hs ?_
    rw [hw, ← hz, List.take_length]
theorem x_zipTL {K : PySem.W.Frag} {te : TE} {vs : List Nat} {i j : Nat} {Q : VK} {σ : L2.St} {H : Hp} {a b : Addr} {xs ys : List Int} (f : Int → Int → Int) (ha : H a = some (.tup (xs.map V.int))) (hb : H b = some (.lst (ys.map V.int))) (hl : xs.length = ys.length) (hn : xs.length ≤ 100000)
    (hv : ∀ x y, wipe (((wipe σ vs).set i (some x)).set j (some y)) vs = wipe σ vs)
    (he : ∀ (k : Nat) x y H' (R : VK), Same H H' → xs[k]? = some x → ys[k]? = some y → R (.int (f x y)) H' → te (((wipe σ vs).set i (some (.int x))).set j (some (.int y))) H' R)
    (hd : ∀ p H', H p = none → Same H H' → H' p = some (.lst ((List.zipWith f xs ys).map V.int)) → Q (.ref p) H') : tLc (iZipX K fun _ H R => R [.ref a, .ref b] H) (gTup K 2 (gCons (gName i) (gCons (gName j) gNil))) tYes te vs σ H Q := by
  have hz : (List.zipWith f xs ys).length = xs.length := by rw [List.length_zipWith, hl, Nat.min_self]
  refine x_lcI (J := ItzX K a b) (n := xs.length) (fun R k => ⟨a, b, _, _, rfl, st_of ha, sq_of hb, k⟩) (walk_mx (xs := xs.map V.int) (ys := ys.map V.int) (by rw [List.length_map]) (by rw [List.length_map, hl])) (fun o k H' => Same H H' ∧ H' o = some (.lst (((List.zipWith f xs ys).take k).map V.int))) (fun o ho => ⟨same_upd ho, upd_same⟩) (fun o k H' _ _ q => ⟨st_of (q.1 _ _ ha), sq_of (q.1 _ _ hb)⟩) ?_ ?_ ?_
  · rintro o k _ H' H2 hk ho ⟨hs, hw⟩ ⟨p, u, v, rfl, hp, rfl, gu, gv⟩
    obtain ⟨y, gy, rfl⟩ := map_get gu
    obtain ⟨z, gz, rfl⟩ := map_get gv
    refine x_gTup2 (st_of upd_same) ⟨hv _ _, ?_⟩
    have hpo : o ≠ p := ne_of_none hw hp
    refine he k y z _ _ (hs.trans (same_upd hp)) gy gz ?_
    refine ⟨_, by rw [upd_ne hpo]; exact hw, ?_, sput (hs.trans (same_upd hp)) ho, ?_⟩
    · rw [List.length_map, List.length_take, hz]
      exact Nat.lt_of_le_of_lt (Nat.min_le_right _ _) (Nat.lt_of_le_of_lt hn (by decide))
    · rw [upd_same]
      have := zw_snoc (zw_get (f := f) gy gz)
      rw [← this, List.map_append]
      rfl
  · intro x σ' H' R R' hRR hg
    obtain ⟨p, xs, e, h1, h2, v, r', e2, w, r2, e3, e4, h3⟩ := hg
    exact ⟨p, xs, e, h1, h2, v, r', e2, w, r2, e3, e4, hRR _ _ h3⟩
  · rintro o H' ho ⟨hs, hw⟩
    refine hd o H' ho hs ?_
    rw [hw, ← hz, List.take_length]
/-- max(pair) for pair in zip(xs, ys) -/
theorem x_zipPair {K : PySem.W.Frag} {te : TE} {vs : List Nat} {i : Nat} {Q : VK} {σ : L2.St} {H : Hp} {a b : Addr} {xs ys : List Int} (f : Int → Int → Int) (ha : H a = some (.lst (xs.map V.int))) (hb : H b = some (.lst (ys.map V.int))) (hl : xs.length = ys.length) (hn : xs.length ≤ 100000)
    (hv : ∀ x, wipe ((wipe σ vs).set i (some x)) vs = wipe σ vs)
    (he : ∀ (k : Nat) x y T H' (R : VK), Same H H' → xs[k]? = some x → ys[k]? = some y → H' T = some (.tup [.int x, .int y]) → R (.int (f x y)) H' → te ((wipe σ vs).set i (some (.ref T))) H' R)
    (hd : ∀ p H', H p = none → Same H H' → H' p = some (.lst ((List.zipWith f xs ys).map V.int)) → Q (.ref p) H') : tLc (iZipP K fun _ H R => R [.ref a, .ref b] H) (gName i) tYes te vs σ H Q := by
  have hz : (List.zipWith f xs ys).length = xs.length := by rw [List.length_zipWith, hl, Nat.min_self]
  have hw0 : Walk (ItzP K a b) xs.length (fun H => SqL K H a (xs.map V.int) ∧ SqL K H b (ys.map V.int)) (YPair (fun i => (xs.map V.int)[i]?) (fun i => (ys.map V.int)[i]?)) := by
    have := walk_zipP (K := K) (a := a) (b := b) (xs := xs.map V.int) (ys := ys.map V.int) (by rw [List.length_map, List.length_map, hl])
    rw [List.length_map] at this
    exact this
  refine x_lcI (J := ItzP K a b) (n := xs.length) (fun R k => ⟨a, b, _, _, rfl, sq_of ha, sq_of hb, k⟩) hw0 (fun o k H' => Same H H' ∧ H' o = some (.lst (((List.zipWith f xs ys).take k).map V.int))) (fun o ho => ⟨same_upd ho, upd_same⟩) (fun o k H' _ _ q => ⟨sq_of (q.1 _ _ ha), sq_of (q.1 _ _ hb)⟩) ?_ ?_ ?_
  · rintro o k _ H' H2 hk ho ⟨hs, hw⟩ ⟨p, u, v, rfl, hp, rfl, gu, gv⟩
    obtain ⟨y, gy, rfl⟩ := map_get gu
    obtain ⟨z, gz, rfl⟩ := map_get gv
    have hpo : o ≠ p := ne_of_none hw hp
    refine ⟨hv _, he k y z p _ _ (hs.trans (same_upd hp)) gy gz upd_same ?_⟩
    refine ⟨_, by rw [upd_ne hpo]; exact hw, ?_, sput (hs.trans (same_upd hp)) ho, ?_⟩
    · rw [List.length_map, List.length_take, hz]
      exact Nat.lt_of_le_of_lt (Nat.min_le_right _ _) (Nat.lt_of_le_of_lt hn (by decide))
    · rw [upd_same]
      have := zw_snoc (zw_get (f := f) gy gz)
      rw [← this, List.map_append]
      rfl
  · exact fun x σ' H' R R' hRR hg => hRR _ _ hg
  · rintro o H' ho ⟨hs, hw⟩
    refine hd o H' ho hs ?_
    rw [hw, ← hz, List.take_length]
/-- [f(x) for x in xs], xs ints -/
theorem x_lcLI {K : PySem.W.Frag} {te : TE} {vs : List Nat} {j : Nat} {Q : VK} {σ : L2.St} {H : Hp} {a : Addr} {xs : List Int} (f : Int → Int) (ha : H a = some (.lst (xs.map V.int))) (hn : xs.length ≤ 100000)
    (hv : ∀ x, wipe ((wipe σ vs).set j (some x)) vs = wipe σ vs)
    (he : ∀ (k : Nat) x H' (R : VK), Same H H' → xs[k]? = some x → R (.int (f x)) H' → te ((wipe σ vs).set j (some (.int x))) H' R)
    (hd : ∀ p H', H p = none → Same H H' → H' p = some (.lst ((xs.map f).map V.int)) → Q (.ref p) H') : tLc (iList K (tC (.ref a))) (gName j) tYes te vs σ H Q := by
  have hw0 : Walk (Itl K a) xs.length (fun H => SqL K H a (xs.map V.int)) (YAt (xs.map V.int)) := by
    have := walk_list (K := K) (a := a) (xs := xs.map V.int)
    rw [List.length_map] at this
    exact this
  refine x_lcI (J := Itl K a) (n := xs.length) (fun R k => ⟨a, rfl, ⟨_, sq_of ha⟩, k⟩) hw0 (fun o k H' => Same H H' ∧ H' o = some (.lst (((xs.map f).take k).map V.int))) (fun o ho => ⟨same_upd ho, upd_same⟩) (fun o k H' _ _ q => sq_of (q.1 _ _ ha)) ?_ ?_ ?_
  · rintro o k _ H' H2 hk ho ⟨hs, hw⟩ ⟨rfl, gu⟩
    obtain ⟨y, gy, rfl⟩ := map_get gu
    refine ⟨hv _, he k y H2 _ hs gy ?_⟩
    refine ⟨_, hw, ?_, sput hs ho, ?_⟩
    · rw [List.length_map, List.length_take, List.length_map]
      exact Nat.lt_of_le_of_lt (Nat.min_le_right _ _) (Nat.lt_of_le_of_lt hn (by decide))
    · rw [upd_same]
      have : (xs.map f)[k]? = some (f y) := by rw [List.getElem?_map, gy]; rfl
      rw [← zw_snoc this, List.map_append]
      rfl
  · exact fun x σ' H' R R' hRR hg => hRR _ _ hg
  · rintro o H' ho ⟨hs, hw⟩
    refine hd o H' ho hs ?_
    rw [hw]
    have : (xs.map f).length = xs.length := List.length_map ..
    rw [← this, List.take_length]
/-- [f(x, y) for x in xs for y in ys] -/
def flat2 (f : Nat → Nat → V) (n : Nat) : Nat → List V
  | 0 => []
  | c + 1 => flat2 f n c ++ (List.range n).map fun r => f c r
theorem flat2_len {f : Nat → Nat → V} {n : Nat} : ∀ {c : Nat}, (flat2 f n c).length = c * n
  | 0 => by rw [Nat.zero_mul]; rfl
  | c + 1 => by unfold flat2; rw [List.length_append, flat2_len, List.length_map, List.length_range, Nat.succ_mul]
def flatI (g : Nat → Nat → Int) (n : Nat) : Nat → List Int
  | 0 => []
  | c + 1 => flatI g n c ++ (List.range n).map fun r => g c r
theorem flat2_int {g : Nat → Nat → Int} {n : Nat} : ∀ {c : Nat}, flat2 (fun c r => V.int (g c r)) n c = (flatI g n c).map V.int
  | 0 => rfl
  | c + 1 => by unfold flat2 flatI; rw [flat2_int, List.map_append, List.map_map]; rfl
theorem flatI_len {g : Nat → Nat → Int} {n : Nat} : ∀ {c : Nat}, (flatI g n c).length = c * n
  | 0 => by rw [Nat.zero_mul]; rfl
  | c + 1 => by unfold flatI; rw [List.length_append, flatI_len, List.length_map, List.length_range, Nat.succ_mul]
theorem x_lc2LL {K : PySem.W.Frag} {ta tb te : TE} {vs vs1 : List Nat} {i j : Nat} {Q : VK} {σ : L2.St} {H : Hp} {a b : Addr} {xs ys : List V} (f : Nat → Nat → V) (hna : ∀ R : V → Hp → Prop, R (.ref a) H → ta σ H R)
    (hnb : ∀ x H' (R : V → Hp → Prop), R (.ref b) H' → tb ((wipe σ vs).set i (some x)) H' R) (ha : H a = some (.lst xs)) (hb : H b = some (.lst ys)) (hl : xs.length * ys.length ≤ 1000000)
    (hv : ∀ x, wipe ((wipe σ vs).set i (some x)) vs = wipe σ vs) (hv1 : ∀ x y, wipe ((wipe ((wipe σ vs).set i (some x)) vs1).set j (some y)) vs1 = wipe ((wipe σ vs).set i (some x)) vs1)
    (he : ∀ (c r : Nat) x y H' (R : VK), Same H H' → xs[c]? = some x → ys[r]? = some y → (∀ H2, Same H' H2 → R (f c r) H2) → te ((wipe ((wipe σ vs).set i (some x)) vs1).set j (some y)) H' R)
    (hd : ∀ p H', H p = none → Same H H' → H' p = some (.lst (flat2 f ys.length xs.length)) → Q (.ref p) H') : tLc2 (iList K ta) (gName i) tYes (iList K tb) (gName j) tYes te vs vs1 σ H Q := by
  refine hna _ ⟨a, rfl, ⟨_, sq_of ha⟩, fun D hD => ⟨fun c m H' => m = xs.length - c ∧ c ≤ xs.length ∧ Same H H' ∧ H' D = some (.lst (flat2 f ys.length c)), ⟨_, rfl, Nat.zero_le _, same_upd hD, upd_same⟩, ?_⟩⟩
  rintro c m H1 ⟨rfl, hc, s1, h1⟩
  have w1 := walk_list (K := K) (a := a) (xs := xs)
  have w2 := walk_list (K := K) (a := b) (xs := ys)
  by_cases hlt : c < xs.length
  · refine .inr ⟨w1.goes c H1 hlt (sq_of (s1 _ _ ha)), fun H' => Same H H' ∧ H' D = some (.lst (flat2 f ys.length (c + 1))), fun H' ⟨q1, q2⟩ => ⟨xs.length - (c + 1), by omega, rfl, hlt, q1, q2⟩, fun x H2 y => ?_⟩
    obtain ⟨rfl, hx⟩ := w1.yields c H1 x H2 hlt (sq_of (s1 _ _ ha)) y
    refine ⟨hv x, ?_⟩
    unfold tYes
    refine iteT ?_
    refine hnb x H2 _ ⟨b, rfl, ⟨_, sq_of (s1 _ _ hb)⟩, fun r k H' => k = ys.length - r ∧ r ≤ ys.length ∧ Same H H' ∧ H' D = some (.lst (flat2 f ys.length c ++ (List.range r).map fun r => f c r)), ⟨_, rfl, Nat.zero_le _, s1, by rw [h1]; simp⟩, ?_⟩
    rintro r k H3 ⟨rfl, hr, s3, h3⟩
    by_cases hlr : r < ys.length
    · refine .inr ⟨w2.goes r H3 hlr (sq_of (s3 _ _ hb)), fun H' => Same H H' ∧ H' D = some (.lst (flat2 f ys.length c ++ (List.range (r + 1)).map fun r => f c r)), fun H' ⟨q1, q2⟩ => ⟨ys.length - (r + 1), by omega, rfl, hlr, q1, q2⟩, fun y H4 yy => ?_⟩
      obtain ⟨rfl, hy⟩ := w2.yields r H3 y H4 hlr (sq_of (s3 _ _ hb)) yy
      refine ⟨hv1 x y, ?_⟩
      refine iteT ?_
      refine he c r x y H4 _ s3 hx hy fun H5 s5 => ⟨_, s5 _ _ h3, ?_, sput (s3.trans s5) hD, ?_⟩
      · rw [List.length_append, flat2_len, List.length_map, List.length_range]
        have h9 : c * ys.length + r < xs.length * ys.length := Nat.lt_of_lt_of_le (Nat.add_lt_add_left hlr _) (by rw [← Nat.succ_mul]; exact Nat.mul_le_mul_right _ hlt)
        exact Nat.lt_of_lt_of_le (show _ < 1000001 by omega) (by decide)
      · rw [upd_same, List.range_succ, List.map_append, List.append_assoc]
        rfl
    · obtain rfl : r = ys.length := by omega
      exact .inl ⟨w2.stops H3 (sq_of (s3 _ _ hb)), s3, h3⟩
  · obtain rfl : c = xs.length := by omega
    exact .inl ⟨w1.stops H1 (sq_of (s1 _ _ ha)), hd D H1 hD s1 h1⟩
/-- xs[at::many] -/
theorem pick_from {xs : List V} {n many k : Nat} (hl : xs.length = n * many) (hk : k < many) : pickV xs (some (k : Int)) none (some (many : Int)) = (List.range n).map fun j => xs.getD (k + many * j) .non := by
  have hm : (0 : Int) < (many : Int) := by omega
  have e1 : sliceBounds (some (k : Int)) none (some (many : Int)) xs.length = (min (k : Int) xs.length, (xs.length : Int), (many : Int)) := by
    unfold sliceBounds
    have : ¬ ((k : Int) < 0) := by omega
    simp [this, hm]
    omega
  unfold pickV
  rw [e1]
  show (sliceRange (min (k : Int) xs.length) (xs.length : Int) (many : Int)).filterMap _ = _
  rcases Nat.eq_zero_or_pos n with h0 | h0
  · subst h0
    rw [Nat.zero_mul] at hl
    have : sliceRange (min (k : Int) xs.length) (xs.length : Int) (many : Int) = [] := by
      unfold sliceRange
      rw [if_pos hm, if_neg (by omega)]
      rfl
    rw [this]
    rfl
  have hkl : k < xs.length := by
    rw [hl]
    exact Nat.lt_of_lt_of_le hk (Nat.le_mul_of_pos_left _ h0)
  have e2 : min (k : Int) xs.length = (k : Int) := by omega
  rw [e2]
  have e3 : sliceRange (k : Int) (xs.length : Int) (many : Int) = (List.range n).map fun j => k + many * j := by
    unfold sliceRange
    rw [if_pos hm, if_pos (by omega)]
    have e : (((xs.length : Int) - k + many - 1) / (many : Int)).toNat = n := by
      have q : ((xs.length : Int) - k + many - 1) = (many : Int) * n + (many - 1 - k) := by
        rw [hl, Int.natCast_mul, Int.mul_comm (n : Int)]
        omega
      rw [q, Int.add_comm, Int.add_mul_ediv_left _ _ (by omega), Int.ediv_eq_zero_of_lt (by omega) (by omega), Int.zero_add, Int.toNat_natCast]
    show (List.range (((xs.length : Int) - k + many - 1) / (many : Int)).toNat).map _ = _
    rw [e]
    apply List.map_congr_left
    intro j _
    show ((k : Int) + (many : Int) * (j : Int)).toNat = k + many * j
    rw [← Int.natCast_mul, ← Int.natCast_add, Int.toNat_natCast]
  rw [e3, List.filterMap_map]
  have : ∀ (l : List Nat), (∀ j ∈ l, j < n) → l.filterMap ((xs[·]?) ∘ fun j => k + many * j) = l.map fun j => xs.getD (k + many * j) .non := by
    intro l
    induction l with
    | nil => intro _; rfl
    | cons j l ih =>
      intro h
      have hj := h j List.mem_cons_self
      have hb : k + many * j < xs.length := by
        rw [hl]
        have h1 : many * j + many ≤ many * n := by rw [← Nat.mul_succ]; exact Nat.mul_le_mul_left _ hj
        rw [Nat.mul_comm n many]
        omega
      rw [List.filterMap_cons, List.map_cons, ih fun j hj => h j (List.mem_cons_of_mem _ hj)]
      have e : ((xs[·]?) ∘ fun j => k + many * j) j = some (xs.getD (k + many * j) .non) := by
        show xs[k + many * j]? = _
        rw [List.getD_eq_getElem?_getD, List.getElem?_eq_getElem hb]
        rfl
      rw [e]
  exact this _ fun j hj => List.mem_range.mp hj
/-- a comprehension over an empty tuple, an empty list -/
theorem x_lcT0 {K : PySem.W.Frag} {ta : TE} {g : TG} {tt : TT} {te : TE} {vs : List Nat} {σ : L2.St} {H : Hp} {Q : VK} {a : Addr} (hn : ∀ R : V → Hp → Prop, R (.ref a) H → ta σ H R) (ha : H a = some (.tup [])) (hd : ∀ p H', H p = none → Same H H' → H' p = some (.lst []) → Q (.ref p) H') : tLc (iTup K ta) g tt te vs σ H Q := by
  refine hn _ ⟨a, rfl, ⟨_, st_of ha⟩, fun D hD => ⟨fun i m H' => Same H H' ∧ H' D = some (.lst []), ⟨0, same_upd hD, upd_same⟩, ?_⟩⟩
  rintro i m H' ⟨s, e⟩
  have w := walk_tup (K := K) (a := a) (xs := [])
  by_cases h0 : i = 0
  · subst h0
    exact .inl ⟨w.stops H' (st_of (s _ _ ha)), hd D H' hD s e⟩
  · refine .inl ⟨?_, hd D H' hD s e⟩
    exact ⟨[], st_of (s _ _ ha), Nat.zero_le _⟩
theorem pick_all {α : Type} : ∀ (t : List α), (List.range t.length).filterMap (t[·]?) = t
  | [] => rfl
  | x :: t => by
    have ih := pick_all t
    rw [List.length_cons, List.range_succ_eq_map, List.filterMap_cons, List.filterMap_map]
    show x :: _ = _
    congr 1
/-- xs[:0:-1] -/
theorem pick_down (xs : List V) : pickV xs none (some 0) (some (-1)) = (xs.drop 1).reverse := by
  cases xs with
  | nil => rfl
  | cons x t =>
    have e1 : sliceBounds none (some 0) (some (-1)) (x :: t).length = ((t.length : Int), 0, -1) := by
      unfold sliceBounds
      simp [List.length_cons]
      omega
    have e2 : sliceRange (t.length : Int) 0 (-1) = (List.range t.length).map fun k => t.length - 1 - k + 1 := by
      unfold sliceRange
      rw [if_neg (by decide)]
      by_cases h : (t.length : Int) > 0
      · rw [if_pos h]
        have e : (((t.length : Int) - 0 - -1 - 1) / (- -1)).toNat = t.length := by
          rw [show (- -1 : Int) = 1 by decide, Int.ediv_one]
          omega
        show (List.range (((t.length : Int) - 0 - -1 - 1) / (- -1)).toNat).map _ = _
        rw [e]
        apply List.map_congr_left
        intro k hk
        have := List.mem_range.mp hk
        omega
      · rw [if_neg h]
        have : t.length = 0 := by omega
        rw [this]
        rfl
    unfold pickV
    rw [e1]
    show (sliceRange (t.length : Int) 0 (-1)).filterMap _ = _
    rw [e2]
    have e3 : ((List.range t.length).map fun k => t.length - 1 - k + 1) = ((List.range t.length).map fun k => t.length - 1 - k).map (· + 1) := by rw [List.map_map]; rfl
    rw [e3, PySem.W.krv_range, List.filterMap_map]
    show (List.range t.length).reverse.filterMap (t[·]?) = _
    rw [List.filterMap_reverse, pick_all]
    rfl
end Br

/-! ### an exception that the suite holds, handed to a def -/
namespace L2
open PySem PySem.Spec PyProof.Rows L2H
/-- what a def promises that is handed a pinned object -/
structure FnE (P : Program) (w : World) (K : PySem.W.Frag) (mg : Str → Option Value) (base : Heap) (k : Nat) (f : Addr) (fd : FuncData) (ps : List Str) (sp : Addr × Obj → Sp) : Prop where
  size : ∀ p vs H Q E, sp p vs H Q E → vs.length = ps.length
  go : ∀ (B : Around) (fr : List Env) (s : Shared) (H : Hp) (args : Args) (us : List Value) (vs : List V) (Q : VK) (E : XK) (p : Addr × Obj), RoomH k B → PinOk fr H s p → Env0 P w K mg base B fr s H → BindsTo s fd args (ps.zip us) → Vals vs us → sp p vs H Q E →
    codeAny (model P w) B (.call (.ref f) args) (CR CX0 fr P w H s Q E) s
theorem Fun.okE {P : Program} {w : World} {K : PySem.W.Frag} {mg : Str → Option Value} {base : Heap} {x qual : Str} {st : Stmt} {f : Addr} {fd : FuncData} {N ps : List Str} {k : Nat} {sp : Addr × Obj → Sp} (F : Fun K x qual st f fd) (S : FnScope N ps (defScope st)) (ln : ∀ p vs H Q E, sp p vs H Q E → vs.length = ps.length)
    (hb : ∀ (cdv : Value) (B : Around) (fr : List Env) (s : Shared) (H : Hp) (vs : List V) (Q : VK) (E : XK) (p : Addr × Obj), RoomH k (B.deeper (envOfC qual (defScope st) s.heap.objs.size f cdv)) → sp p vs H Q E →
      ∃ t, PSs (cxH CX0 P w K mg base N qual (defScope st) f cdv B fr s H E p) (defBody st) t ∧ t { nx := fun _ H' => Q .non H', rt := Q } (L2.start N vs) H) : FnE P w K mg base (k + 1) f fd ps sp := by
  obtain ⟨oc, od, kV, doc, pm, an, cdv, ct, osl, rfl, lk, hcd⟩ := F.ex
  refine ⟨ln, fun B fr s H args us vs Q E p hr pin e bnd rv hs => ?_⟩
  have n := ln _ _ _ _ _ hs
  have ki : K.In s.heap := e.mod.kin.keeps fun b o z => (e.bs b o z).1
  have nl : s.heap.NoLimit := e.mod.nolimit.keeps fun b o z => (e.bs b o z).1
  refine codeAny_call_function hr.depth (ki _ _ lk) rfl S.co S.gen rfl (PySem.W.codeRec_of ki hcd) (bnd _ _ _ _ (wpAny_newFunctionEnv_cells S.kind (fun ⟨m, v⟩ hm => ?_) fun en hen s1 ic => ?_))
  · rcases S.par m (List.of_mem_zip hm).1 with z | z
    · exact .inl z
    · exact .inr ⟨z, PySem.W.cellsFrom_some _ _ _ (.inl z)⟩
  · subst hen
    refine ⟨nl.keeps ic.toInCall.keep, codeAny_func ?_⟩
    obtain ⟨t, ht, hq⟩ := hb cdv B fr s H vs Q E p (hr.deeper _) hs
    have J := inv_startH (CX := CX0) (E := E) (cd := cdv) (qual := qual) (f := f) S pin e n rv ic
    refine wpAny_mono (ht.run [] s1 _ H _ J hq) (fun fl s' z => ?_) fun _ _ z => z
    cases fl with
    | ret u =>
      obtain ⟨v, _, H', I, ru, qv⟩ := z
      exact ⟨v, H', I.os, I.bare, I.base, I.hok, ru, qv⟩
    | next =>
      obtain ⟨_, H', I, qv⟩ := z
      exact ⟨V.non, H', I.os, I.bare, I.base, I.hok, rfl, qv⟩
    | brk =>
      obtain ⟨_, _, _, qv⟩ := z
      exact qv.elim
    | cont =>
      obtain ⟨_, _, _, qv⟩ := z
      exact qv.elim
section
variable {X : Cx} {k : Nat} {f : Addr} {fd : FuncData} {ps : List Str} {sp : Addr × Obj → Sp}
def tCallE (a : Addr) (cls : Value) (d : Option Addr) (sp : Addr × Obj → Sp) (E : XK) (t : TA) : TE := fun σ H Q => t σ H fun vs H1 => ∀ oe, Zc cls d oe → (∃ us, oe.data = .fields us) → sp (a, oe) vs H1 Q E
theorem run_fnE {a : Addr} {oe : Obj} {pins : List (Addr × Obj)} {σ : St} {H : Hp} {s : Shared} {Q : VK} {us : List Value} {vs : List V} {E : XK} (hpn : (a, oe) ∈ X.pn) (F : FnE X.prog X.w X.K X.mg X.base k f fd ps sp) (hr : RoomH k X.A) (bd : Binds X.K fd ps [])
    (I : Inv X pins σ H s) (r : Vals vs us) (h : sp (a, oe) vs H Q E) : wpAny (model X.prog X.w) X.A (call (.ref f) us) (EP X pins σ Q) X.xe s := by
  have b := bd s us I.kIn (by rw [List.append_nil, ← r.length]; exact F.size _ _ _ _ _ h)
  rw [List.append_nil] at b
  obtain ⟨g1, g2, g3, g4, g5⟩ := I.pin (a, oe) (List.mem_append_left _ hpn)
  have pin : PinOk X.stack H s (a, oe) := ⟨g1, g2, fun z => (List.mem_cons.mp (I.stkSub a z)).elim g3 g4, g5⟩
  refine wpAny_call (codeAny_mono (F.go X.A X.stack s H ⟨us, []⟩ us vs Q E (a, oe) hr pin I.env0 b r h) fun res s' z => ?_)
  cases res with
  | error e => exact False.elim z
  | ok fl =>
    cases fl with
    | ret u => exact I.after z
    | _ => exact False.elim z
theorem pe_callE {a : Addr} {oe : Obj} {cls : Value} {d : Option Addr} {E : XK} {x : Str} {p pos : Pos} {e : Expr} {es : List Expr} {t : TA} (hpn : (a, oe) ∈ X.pn) (hz : Zc cls d oe) (hf : ∃ vs, oe.data = .fields vs)
    (F : FnE X.prog X.w X.K X.mg X.base k f fd ps sp) (hr : RoomH k X.A) (hg : Gl X x) (hm : X.mg x = some (.ref f)) (hk : PySem.W.keepIn X.K (.ref f) = true) (bd : Binds X.K fd ps []) (ha : PA X (e :: es) t)
    (hdb : (x == ("__debug__" : Str)) = false := by decide) (he : starEach (e :: es) X.env = (false, eval e X.env) :: starEach es X.env := by rfl) (hpl : (backTo pos (starEach es X.env)).any (·.1) = false := by rfl) :
    PE X (.Call (.Name x p) (e :: es) [] pos) (tCallE a cls d sp E t) :=
  ⟨fun pins s σ H Q I h => wpAny_Call_Name_kw (ld_glob I hg hm (PySem.W.callWith_K (h₀ := X.base) I.ok.mod.kin hk (thn (ha.run pos pins s σ H _ I h) fun us s1 ⟨vs, H1, J, r, q⟩ => ⟨J.kIn, run_fnE hpn F hr bd J r (q oe hz hf)⟩) he hpl) hdb)⟩
theorem x_callE {a : Addr} {cls : Value} {d : Option Addr} {E : XK} {t : TA} {σ : St} {H : Hp} {Q : VK} (h : t σ H fun vs H1 => ∀ oe, Zc cls d oe → (∃ us, oe.data = .fields us) → sp (a, oe) vs H1 Q E) : tCallE a cls d sp E t σ H Q := h
/-- isinstance(e, c), e a pinned exception of the class D -/
def rIsEP (K : PySem.W.Frag) (p : Addr × Obj) : List V → Hp → VK → Prop := fun xs H Q => ∃ (D C : Addr) (b : Bool), xs = [.ref p.1, .ref C] ∧ Zc (.ref D) none p.2 ∧ (∃ us, p.2.data = .fields us) ∧ ExcC K D ∧ PySem.W.kitOne K (.ref D) (.ref C) = some b ∧ Q (.bl b) H
theorem call_isEP {p : Addr × Obj} (hp : p ∈ X.pn) : CallR X (.builtin "isinstance") (rIsEP X.K p) := by
  intro pins s σ H xs us Q I r h
  obtain ⟨D, c, b, rfl, hz, ⟨vs, hv⟩, C, hk, q⟩ := h
  obtain ⟨u1, u2, rfl, rx, rt⟩ := vals2 r
  cases (show u2 = Value.ref c from rt)
  cases (show u1 = Value.ref p.1 from rx)
  have hg := (I.pin p (List.mem_append.mpr (.inl hp))).1
  have J : PySem.W.InstAt s.heap p.1 p.2 D none := by
    obtain ⟨a, oc, od, oda, osl⟩ := p
    obtain ⟨h1, h2⟩ := hz
    dsimp only at h1 h2 hv hg ⊢
    subst h1 h2 hv
    exact ⟨hg, rfl, rfl, trivial⟩
  exact PySem.W.kia_one (PySem.W.handS_kitx_exc C.hg C.hk C.hs C.hd C.ha C.hn C.ht C.hm) I.kIn J hk (fun z => nomatch z) fun tk => ⟨.bl b, H, I.kept (t' := tk) fun _ _ z => z, rfl, q⟩
/-- isinstance(e, (c, d)), e a pinned exception of the class D -/
def rIsEPT (K : PySem.W.Frag) (p : Addr × Obj) : List V → Hp → VK → Prop := fun xs H Q => ∃ (D tp : Addr) (cs : List V) (us : List Value) (b : Bool), xs = [.ref p.1, .ref tp] ∧ Zc (.ref D) none p.2 ∧ (∃ us, p.2.data = .fields us) ∧ ExcC K D ∧ H tp = some (.tup cs) ∧ Paired ClsV cs us ∧ PySem.W.kitAny K (.ref D) us = some b ∧ Q (.bl b) H
theorem call_isEPT {p : Addr × Obj} (hp : p ∈ X.pn) : CallR X (.builtin "isinstance") (rIsEPT X.K p) := by
  intro pins s σ H xs us Q I r h
  obtain ⟨D, tp, cs, ws, b, rfl, hz, ⟨vs, hv⟩, C, hT, k, e, q⟩ := h
  obtain ⟨u1, u2, rfl, rx, rt⟩ := vals2 r
  cases (show u2 = Value.ref tp from rt)
  cases (show u1 = Value.ref p.1 from rx)
  have hg := (I.pin p (List.mem_append.mpr (.inl hp))).1
  have J : PySem.W.InstAt s.heap p.1 p.2 D none := by
    obtain ⟨a, oc, od, oda, osl⟩ := p
    obtain ⟨h1, h2⟩ := hz
    dsimp only at h1 h2 hv hg ⊢
    subst h1 h2 hv
    exact ⟨hg, rfl, rfl, trivial⟩
  obtain ⟨_, its, rv, o, h1, h2, n, h3⟩ := (show ObjOk _ _ H s.heap tp (.tup cs) from I.hok tp _ hT)
  have e3 := ClsV.all k rv
  subst e3
  obtain ⟨oc, od, dt, sl⟩ := o
  simp only at h2 h3
  subst h2 h3
  exact PySem.W.kia_tup (PySem.W.handS_kitx_exc C.hg C.hk C.hs C.hd C.ha C.hn C.ht C.hm) I.kIn J h1 e (fun z => nomatch z) fun tk => ⟨.bl b, H, I.kept (t' := tk) fun _ _ z => z, rfl, q⟩
end
end L2






namespace Br
open PySem PySem.Spec PyProof.Rows L2
def topS (i : Nat) : Stmt := PySem.Challenge.pw_brimful_k46_programs_that_are_not_judged.main.body.getD i (.Pass ⟨0, 0, 0, 0⟩)
abbrev s_is_below : Stmt := topS 9
abbrev N_is_below : List Str := ["value", "bound"]
theorem sc_is_below : FnScope N_is_below ["value", "bound"] (defScope s_is_below) := ⟨rfl, rfl, rfl, by decide +kernel, rfl, by decide +kernel, by decide +kernel⟩
abbrev s_is_modulus : Stmt := topS 10
abbrev N_is_modulus : List Str := ["value"]
theorem sc_is_modulus : FnScope N_is_modulus ["value"] (defScope s_is_modulus) := ⟨rfl, rfl, rfl, by decide +kernel, rfl, by decide +kernel, by decide +kernel⟩
abbrev s_is_prime : Stmt := topS 11
abbrev N_is_prime : List Str := ["n", "divisor"]
theorem sc_is_prime : FnScope N_is_prime ["n"] (defScope s_is_prime) := ⟨rfl, rfl, rfl, by decide +kernel, rfl, by decide +kernel, by decide +kernel⟩
abbrev s_inverse_of : Stmt := topS 12
abbrev N_inverse_of : List Str := ["n", "modulus", "last", "rest", "last_factor", "rest_factor", "times"]
theorem sc_inverse_of : FnScope N_inverse_of ["n", "modulus"] (defScope s_inverse_of) := ⟨rfl, rfl, rfl, by decide +kernel, rfl, by decide +kernel, by decide +kernel⟩
abbrev s_interpolate : Stmt := topS 13
abbrev N_interpolate : List Str := ["table", "prime", "x", "y", "row_shares", "column_shares", "total", "row_share", "row"]
theorem sc_interpolate : FnScope N_interpolate ["table", "prime", "x", "y"] (defScope s_interpolate) := ⟨rfl, rfl, rfl, by decide +kernel, rfl, by decide +kernel, by decide +kernel⟩
abbrev s_weighted : Stmt := topS 14
abbrev N_weighted : List Str := ["row", "shares", "share", "value"]
theorem sc_weighted : FnScope N_weighted ["row", "shares"] (defScope s_weighted) := ⟨rfl, rfl, rfl, by decide +kernel, rfl, by decide +kernel, by decide +kernel⟩
abbrev s_shares : Stmt := topS 15
abbrev N_shares : List Str := ["size", "prime", "x", "at", "top", "shares", "bottom"]
theorem sc_shares : FnScope N_shares ["size", "prime", "x"] (defScope s_shares) := ⟨rfl, rfl, rfl, by decide +kernel, rfl, by decide +kernel, by decide +kernel⟩
abbrev s_products_of_differences : Stmt := topS 16
abbrev N_products_of_differences : List Str := ["size", "prime", "factorials", "n", "bottoms", "at", "above", "sign"]
theorem sc_products_of_differences : FnScope N_products_of_differences ["size", "prime"] (defScope s_products_of_differences) := ⟨rfl, rfl, rfl, by decide +kernel, rfl, by decide +kernel, by decide +kernel⟩
abbrev s_grid_points : Stmt := topS 18
abbrev N_grid_points : List Str := ["sizes", "point", "at"]
theorem sc_grid_points : GScope N_grid_points ["sizes"] (defScope s_grid_points) := ⟨rfl, rfl, rfl, by decide +kernel, rfl, by decide +kernel, by decide +kernel⟩
abbrev s_coefficients : Stmt := topS 19
abbrev N_coefficients : List Str := ["contents", "sizes", "prime", "size", "many", "rows", "columns", "at", "column", "row"]
theorem sc_coefficients : FnScope N_coefficients ["contents", "sizes", "prime"] (defScope s_coefficients) := ⟨rfl, rfl, rfl, by decide +kernel, rfl, by decide +kernel, by decide +kernel⟩
abbrev s_combined : Stmt := topS 20
abbrev N_combined : List Str := ["row", "column", "factor", "content"]
theorem sc_combined : FnScope N_combined ["row", "column"] (defScope s_combined) := ⟨rfl, rfl, rfl, by decide +kernel, rfl, by decide +kernel, by decide +kernel⟩
abbrev s_rows_for : Stmt := topS 21
abbrev N_rows_for : List Str := ["size", "prime", "whole", "at", "columns", "bottom", "factor", "number"]
theorem sc_rows_for : FnScope N_rows_for ["size", "prime"] (defScope s_rows_for) := ⟨rfl, rfl, rfl, by decide +kernel, rfl, by decide +kernel, by decide +kernel⟩
abbrev s_times : Stmt := topS 22
abbrev N_times : List Str := ["polynomial", "at", "prime", "raised", "above", "number"]
theorem sc_times : FnScope N_times ["polynomial", "at", "prime"] (defScope s_times) := ⟨rfl, rfl, rfl, by decide +kernel, rfl, by decide +kernel, by decide +kernel⟩
abbrev s_divided : Stmt := topS 23
abbrev N_divided : List Str := ["polynomial", "at", "prime", "quotient", "last", "number"]
theorem sc_divided : FnScope N_divided ["polynomial", "at", "prime"] (defScope s_divided) := ⟨rfl, rfl, rfl, by decide +kernel, rfl, by decide +kernel, by decide +kernel⟩
abbrev s_is_step : Stmt := topS 26
abbrev N_is_step : List Str := ["step", "modulus", "cells", "inputs", "target", "coefficient", "factors", "unit", "a", "b", "sign", "table"]
theorem sc_is_step : FnScope N_is_step ["step", "modulus", "cells", "inputs"] (defScope s_is_step) := ⟨rfl, rfl, rfl, by decide +kernel, rfl, by decide +kernel, by decide +kernel⟩
abbrev s_are_factors : Stmt := topS 27
abbrev N_are_factors : List Str := ["factors", "target", "cells", "inputs", "factor"]
theorem sc_are_factors : FnScope N_are_factors ["factors", "target", "cells", "inputs"] (defScope s_are_factors) := ⟨rfl, rfl, rfl, by decide +kernel, rfl, by decide +kernel, by decide +kernel⟩
abbrev s_is_factor : Stmt := topS 28
abbrev N_is_factor : List Str := ["factor", "target", "cells", "inputs", "at"]
theorem sc_is_factor : FnScope N_is_factor ["factor", "target", "cells", "inputs"] (defScope s_is_factor) := ⟨rfl, rfl, rfl, by decide +kernel, rfl, by decide +kernel, by decide +kernel⟩
abbrev s_are_three_cells : Stmt := topS 29
abbrev N_are_three_cells : List Str := ["target", "a", "b", "cells", "cell"]
theorem sc_are_three_cells : FnScope N_are_three_cells ["target", "a", "b", "cells"] (defScope s_are_three_cells) := ⟨rfl, rfl, rfl, by decide +kernel, rfl, by decide +kernel, by decide +kernel⟩
abbrev s_is_sign : Stmt := topS 30
abbrev N_is_sign : List Str := ["sign", "modulus"]
theorem sc_is_sign : FnScope N_is_sign ["sign", "modulus"] (defScope s_is_sign) := ⟨rfl, rfl, rfl, by decide +kernel, rfl, by decide +kernel, by decide +kernel⟩
abbrev s_is_table : Stmt := topS 31
abbrev N_is_table : List Str := ["table", "modulus", "row"]
theorem sc_is_table : FnScope N_is_table ["table", "modulus"] (defScope s_is_table) := ⟨rfl, rfl, rfl, by decide +kernel, rfl, by decide +kernel, by decide +kernel⟩
abbrev s_is_row : Stmt := topS 32
abbrev N_is_row : List Str := ["row", "size", "modulus", "value"]
theorem sc_is_row : FnScope N_is_row ["row", "size", "modulus"] (defScope s_is_row) := ⟨rfl, rfl, rfl, by decide +kernel, rfl, by decide +kernel, by decide +kernel⟩
abbrev s_changes : Stmt := topS 33
abbrev N_changes : List Str := ["step", "memory", "given", "modulus", "target", "coefficient", "factors", "amount", "unit", "a", "b", "sign", "table"]
theorem sc_changes : FnScope N_changes ["step", "memory", "given", "modulus"] (defScope s_changes) := ⟨rfl, rfl, rfl, by decide +kernel, rfl, by decide +kernel, by decide +kernel⟩
abbrev s_performed : Stmt := topS 34
abbrev N_performed : List Str := ["steps", "memory", "given", "modulus", "behind", "step", "changed", "cell", "content"]
theorem sc_performed : FnScope N_performed ["steps", "memory", "given", "modulus"] (defScope s_performed) := ⟨rfl, rfl, rfl, by decide +kernel, rfl, by decide +kernel, by decide +kernel⟩
abbrev s_product_of : Stmt := topS 35
abbrev N_product_of : List Str := ["factors", "memory", "given", "modulus", "result", "place", "at", "number"]
theorem sc_product_of : FnScope N_product_of ["factors", "memory", "given", "modulus"] (defScope s_product_of) := ⟨rfl, rfl, rfl, by decide +kernel, rfl, by decide +kernel, by decide +kernel⟩
abbrev s_check_sizes : Stmt := topS 42
abbrev N_check_sizes : List Str := ["modulus", "cells", "inputs"]
theorem sc_check_sizes : FnScope N_check_sizes ["modulus", "cells", "inputs"] (defScope s_check_sizes) := ⟨rfl, rfl, rfl, by decide +kernel, rfl, by decide +kernel, by decide +kernel⟩
abbrev s_check_steps : Stmt := topS 43
abbrev N_check_steps : List Str := ["steps", "modulus", "cells", "inputs", "at", "step"]
theorem sc_check_steps : FnScope N_check_steps ["steps", "modulus", "cells", "inputs"] (defScope s_check_steps) := ⟨rfl, rfl, rfl, by decide +kernel, rfl, by decide +kernel, by decide +kernel⟩
abbrev s_judge : Stmt := topS 46
abbrev N_judge : List Str := ["program", "target", "modulus", "inputs", "sizes", "leak", "first_amount", "numbers", "given", "memory", "behind", "spoilt", "amount"]
theorem sc_judge : FnScope N_judge ["program", "target"] (defScope s_judge) := ⟨rfl, rfl, rfl, by decide +kernel, rfl, by decide +kernel, by decide +kernel⟩
abbrev s_check_kind : Stmt := topS 47
abbrev N_check_kind : List Str := ["program", "step"]
theorem sc_check_kind : FnScope N_check_kind ["program"] (defScope s_check_kind) := ⟨rfl, rfl, rfl, by decide +kernel, rfl, by decide +kernel, by decide +kernel⟩
abbrev s_check_effort : Stmt := topS 48
abbrev N_check_effort : List Str := ["program", "effort", "_"]
theorem sc_check_effort : FnScope N_check_effort ["program"] (defScope s_check_effort) := ⟨rfl, rfl, rfl, by decide +kernel, rfl, by decide +kernel, by decide +kernel⟩
abbrev s_spoilt_cells : Stmt := topS 49
abbrev N_spoilt_cells : List Str := ["memory", "behind", "target", "cell", "content"]
theorem sc_spoilt_cells : FnScope N_spoilt_cells ["memory", "behind", "target"] (defScope s_spoilt_cells) := ⟨rfl, rfl, rfl, by decide +kernel, rfl, by decide +kernel, by decide +kernel⟩
abbrev s_polynomials : Stmt := topS 50
abbrev N_polynomials : List Str := ["program", "inputs", "prime", "behind_at", "found", "cell", "degrees", "sizes", "contents", "point", "degree"]
theorem sc_polynomials : FnScope N_polynomials ["program"] (defScope s_polynomials) := ⟨rfl, rfl, rfl, by decide +kernel, rfl, by decide +kernel, by decide +kernel⟩
abbrev s_terms : Stmt := topS 51
abbrev N_terms : List Str := ["numbers", "sizes", "exponents", "number"]
theorem sc_terms : FnScope N_terms ["numbers", "sizes"] (defScope s_terms) := ⟨rfl, rfl, rfl, by decide +kernel, rfl, by decide +kernel, by decide +kernel⟩
abbrev s_degrees_of : Stmt := topS 52
abbrev N_degrees_of : List Str := ["program", "inputs", "prime", "many", "degrees", "step", "target", "factors", "parts", "added", "old", "a", "b", "own", "variable", "place", "at", "pair", "part"]
theorem sc_degrees_of : FnScope N_degrees_of ["program"] (defScope s_degrees_of) := ⟨rfl, rfl, rfl, by decide +kernel, rfl, by decide +kernel, by decide +kernel⟩
abbrev s_law_mixed : Stmt := topS 54
abbrev N_law_mixed : List Str := ["number", "k", "step"]
theorem sc_law_mixed : FnScope N_law_mixed ["number", "k"] (defScope s_law_mixed) := ⟨rfl, rfl, rfl, by decide +kernel, rfl, by decide +kernel, by decide +kernel⟩
abbrev s_law_numbers : Stmt := topS 55
abbrev N_law_numbers : List Str := ["script", "numbers", "cell", "rest", "k"]
theorem sc_law_numbers : FnScope N_law_numbers ["script"] (defScope s_law_numbers) := ⟨rfl, rfl, rfl, by decide +kernel, rfl, by decide +kernel, by decide +kernel⟩
abbrev s_law_draw : Stmt := topS 56
abbrev N_law_draw : List Str := ["draws", "at", "first"]
theorem sc_law_draw : FnScope N_law_draw ["draws"] (defScope s_law_draw) := ⟨rfl, rfl, rfl, by decide +kernel, rfl, by decide +kernel, by decide +kernel⟩
abbrev s_law_is_prime : Stmt := topS 57
abbrev N_law_is_prime : List Str := ["number", "k"]
theorem sc_law_is_prime : FnScope N_law_is_prime ["number"] (defScope s_law_is_prime) := ⟨rfl, rfl, rfl, by decide +kernel, rfl, by decide +kernel, by decide +kernel⟩
abbrev s_law_kind : Stmt := topS 58
abbrev N_law_kind : List Str := ["refused"]
theorem sc_law_kind : FnScope N_law_kind ["refused"] (defScope s_law_kind) := ⟨rfl, rfl, rfl, by decide +kernel, rfl, by decide +kernel, by decide +kernel⟩
abbrev s_law_judged : Stmt := topS 59
abbrev N_law_judged : List Str := ["program", "target", "e"]
theorem sc_law_judged : FnScope N_law_judged ["program", "target"] (defScope s_law_judged) := ⟨rfl, rfl, rfl, by decide +kernel, rfl, by decide +kernel, by decide +kernel⟩
abbrev s_law_expanded : Stmt := topS 60
abbrev N_law_expanded : List Str := ["program", "rows", "e"]
theorem sc_law_expanded : FnScope N_law_expanded ["program"] (defScope s_law_expanded) := ⟨rfl, rfl, rfl, by decide +kernel, rfl, by decide +kernel, by decide +kernel⟩
abbrev s_law_size : Stmt := topS 61
abbrev N_law_size : List Str := ["draws", "modulus", "many", "total", "k", "steps"]
theorem sc_law_size : FnScope N_law_size ["draws"] (defScope s_law_size) := ⟨rfl, rfl, rfl, by decide +kernel, rfl, by decide +kernel, by decide +kernel⟩
abbrev s_law : Stmt := topS 62
abbrev N_law : List Str := ["script", "draws", "size", "modulus", "cells", "long", "prime", "steps", "table", "program", "due", "target", "k"]
theorem sc_law : FnScope N_law ["script"] (defScope s_law) := ⟨rfl, rfl, rfl, by decide +kernel, rfl, by decide +kernel, by decide +kernel⟩
abbrev s_Program___init : Stmt := inClass (topS 41) 0
abbrev N_Program___init : List Str := ["self", "modulus", "cells", "inputs", "steps"]
theorem sc_Program___init : FnScope N_Program___init ["self", "modulus", "cells", "inputs", "steps"] (defScope s_Program___init) := ⟨rfl, rfl, rfl, by decide +kernel, rfl, by decide +kernel, by decide +kernel⟩
structure Txt (K : PySem.W.Frag) (mg : Str → Option Value) where
  a_is_below : Addr
  fd_is_below : FuncData
  F_is_below : Fun K "is_below" "is_below" s_is_below a_is_below fd_is_below
  b_is_below : Binds K fd_is_below ["value", "bound"] []
  g_is_below : mg "is_below" = some (.ref a_is_below)
  a_is_modulus : Addr
  fd_is_modulus : FuncData
  F_is_modulus : Fun K "is_modulus" "is_modulus" s_is_modulus a_is_modulus fd_is_modulus
  b_is_modulus : Binds K fd_is_modulus ["value"] []
  g_is_modulus : mg "is_modulus" = some (.ref a_is_modulus)
  a_is_prime : Addr
  fd_is_prime : FuncData
  F_is_prime : Fun K "is_prime" "is_prime" s_is_prime a_is_prime fd_is_prime
  b_is_prime : Binds K fd_is_prime ["n"] []
  g_is_prime : mg "is_prime" = some (.ref a_is_prime)
  a_inverse_of : Addr
  fd_inverse_of : FuncData
  F_inverse_of : Fun K "inverse_of" "inverse_of" s_inverse_of a_inverse_of fd_inverse_of
  b_inverse_of : Binds K fd_inverse_of ["n", "modulus"] []
  g_inverse_of : mg "inverse_of" = some (.ref a_inverse_of)
  a_interpolate : Addr
  fd_interpolate : FuncData
  F_interpolate : Fun K "interpolate" "interpolate" s_interpolate a_interpolate fd_interpolate
  b_interpolate : Binds K fd_interpolate ["table", "prime", "x", "y"] []
  g_interpolate : mg "interpolate" = some (.ref a_interpolate)
  a_weighted : Addr
  fd_weighted : FuncData
  F_weighted : Fun K "_weighted" "_weighted" s_weighted a_weighted fd_weighted
  b_weighted : Binds K fd_weighted ["row", "shares"] []
  g_weighted : mg "_weighted" = some (.ref a_weighted)
  a_shares : Addr
  fd_shares : FuncData
  F_shares : Fun K "_shares" "_shares" s_shares a_shares fd_shares
  b_shares : Binds K fd_shares ["size", "prime", "x"] []
  g_shares : mg "_shares" = some (.ref a_shares)
  a_products_of_differences : Addr
  fd_products_of_differences : FuncData
  F_products_of_differences : Fun K "products_of_differences" "products_of_differences" s_products_of_differences a_products_of_differences fd_products_of_differences
  b_products_of_differences : Binds K fd_products_of_differences ["size", "prime"] []
  g_products_of_differences : mg "products_of_differences" = some (.ref a_products_of_differences)
  a_grid_points : Addr
  fd_grid_points : FuncData
  F_grid_points : Fun K "grid_points" "grid_points" s_grid_points a_grid_points fd_grid_points
  b_grid_points : Binds K fd_grid_points ["sizes"] []
  g_grid_points : mg "grid_points" = some (.ref a_grid_points)
  a_coefficients : Addr
  fd_coefficients : FuncData
  F_coefficients : Fun K "coefficients" "coefficients" s_coefficients a_coefficients fd_coefficients
  b_coefficients : Binds K fd_coefficients ["contents", "sizes", "prime"] []
  g_coefficients : mg "coefficients" = some (.ref a_coefficients)
  a_combined : Addr
  fd_combined : FuncData
  F_combined : Fun K "_combined" "_combined" s_combined a_combined fd_combined
  b_combined : Binds K fd_combined ["row", "column"] []
  g_combined : mg "_combined" = some (.ref a_combined)
  a_rows_for : Addr
  fd_rows_for : FuncData
  F_rows_for : Fun K "_rows_for" "_rows_for" s_rows_for a_rows_for fd_rows_for
  b_rows_for : Binds K fd_rows_for ["size", "prime"] []
  g_rows_for : mg "_rows_for" = some (.ref a_rows_for)
  a_times : Addr
  fd_times : FuncData
  F_times : Fun K "_times" "_times" s_times a_times fd_times
  b_times : Binds K fd_times ["polynomial", "at", "prime"] []
  g_times : mg "_times" = some (.ref a_times)
  a_divided : Addr
  fd_divided : FuncData
  F_divided : Fun K "_divided" "_divided" s_divided a_divided fd_divided
  b_divided : Binds K fd_divided ["polynomial", "at", "prime"] []
  g_divided : mg "_divided" = some (.ref a_divided)
  a_is_step : Addr
  fd_is_step : FuncData
  F_is_step : Fun K "is_step" "is_step" s_is_step a_is_step fd_is_step
  b_is_step : Binds K fd_is_step ["step", "modulus", "cells", "inputs"] []
  g_is_step : mg "is_step" = some (.ref a_is_step)
  a_are_factors : Addr
  fd_are_factors : FuncData
  F_are_factors : Fun K "_are_factors" "_are_factors" s_are_factors a_are_factors fd_are_factors
  b_are_factors : Binds K fd_are_factors ["factors", "target", "cells", "inputs"] []
  g_are_factors : mg "_are_factors" = some (.ref a_are_factors)
  a_is_factor : Addr
  fd_is_factor : FuncData
  F_is_factor : Fun K "_is_factor" "_is_factor" s_is_factor a_is_factor fd_is_factor
  b_is_factor : Binds K fd_is_factor ["factor", "target", "cells", "inputs"] []
  g_is_factor : mg "_is_factor" = some (.ref a_is_factor)
  a_are_three_cells : Addr
  fd_are_three_cells : FuncData
  F_are_three_cells : Fun K "_are_three_cells" "_are_three_cells" s_are_three_cells a_are_three_cells fd_are_three_cells
  b_are_three_cells : Binds K fd_are_three_cells ["target", "a", "b", "cells"] []
  g_are_three_cells : mg "_are_three_cells" = some (.ref a_are_three_cells)
  a_is_sign : Addr
  fd_is_sign : FuncData
  F_is_sign : Fun K "_is_sign" "_is_sign" s_is_sign a_is_sign fd_is_sign
  b_is_sign : Binds K fd_is_sign ["sign", "modulus"] []
  g_is_sign : mg "_is_sign" = some (.ref a_is_sign)
  a_is_table : Addr
  fd_is_table : FuncData
  F_is_table : Fun K "is_table" "is_table" s_is_table a_is_table fd_is_table
  b_is_table : Binds K fd_is_table ["table", "modulus"] []
  g_is_table : mg "is_table" = some (.ref a_is_table)
  a_is_row : Addr
  fd_is_row : FuncData
  F_is_row : Fun K "_is_row" "_is_row" s_is_row a_is_row fd_is_row
  b_is_row : Binds K fd_is_row ["row", "size", "modulus"] []
  g_is_row : mg "_is_row" = some (.ref a_is_row)
  a_changes : Addr
  fd_changes : FuncData
  F_changes : Fun K "changes" "changes" s_changes a_changes fd_changes
  b_changes : Binds K fd_changes ["step", "memory", "given", "modulus"] []
  g_changes : mg "changes" = some (.ref a_changes)
  a_performed : Addr
  fd_performed : FuncData
  F_performed : Fun K "performed" "performed" s_performed a_performed fd_performed
  b_performed : Binds K fd_performed ["steps", "memory", "given", "modulus"] []
  g_performed : mg "performed" = some (.ref a_performed)
  a_product_of : Addr
  fd_product_of : FuncData
  F_product_of : Fun K "_product_of" "_product_of" s_product_of a_product_of fd_product_of
  b_product_of : Binds K fd_product_of ["factors", "memory", "given", "modulus"] []
  g_product_of : mg "_product_of" = some (.ref a_product_of)
  a_check_sizes : Addr
  fd_check_sizes : FuncData
  F_check_sizes : Fun K "_check_sizes" "_check_sizes" s_check_sizes a_check_sizes fd_check_sizes
  b_check_sizes : Binds K fd_check_sizes ["modulus", "cells", "inputs"] []
  g_check_sizes : mg "_check_sizes" = some (.ref a_check_sizes)
  a_check_steps : Addr
  fd_check_steps : FuncData
  F_check_steps : Fun K "_check_steps" "_check_steps" s_check_steps a_check_steps fd_check_steps
  b_check_steps : Binds K fd_check_steps ["steps", "modulus", "cells", "inputs"] []
  g_check_steps : mg "_check_steps" = some (.ref a_check_steps)
  a_judge : Addr
  fd_judge : FuncData
  F_judge : Fun K "judge" "judge" s_judge a_judge fd_judge
  b_judge : Binds K fd_judge ["program", "target"] []
  g_judge : mg "judge" = some (.ref a_judge)
  a_check_kind : Addr
  fd_check_kind : FuncData
  F_check_kind : Fun K "_check_kind" "_check_kind" s_check_kind a_check_kind fd_check_kind
  b_check_kind : Binds K fd_check_kind ["program"] []
  g_check_kind : mg "_check_kind" = some (.ref a_check_kind)
  a_check_effort : Addr
  fd_check_effort : FuncData
  F_check_effort : Fun K "_check_effort" "_check_effort" s_check_effort a_check_effort fd_check_effort
  b_check_effort : Binds K fd_check_effort ["program"] []
  g_check_effort : mg "_check_effort" = some (.ref a_check_effort)
  a_spoilt_cells : Addr
  fd_spoilt_cells : FuncData
  F_spoilt_cells : Fun K "_spoilt_cells" "_spoilt_cells" s_spoilt_cells a_spoilt_cells fd_spoilt_cells
  b_spoilt_cells : Binds K fd_spoilt_cells ["memory", "behind", "target"] []
  g_spoilt_cells : mg "_spoilt_cells" = some (.ref a_spoilt_cells)
  a_polynomials : Addr
  fd_polynomials : FuncData
  F_polynomials : Fun K "polynomials" "polynomials" s_polynomials a_polynomials fd_polynomials
  b_polynomials : Binds K fd_polynomials ["program"] []
  g_polynomials : mg "polynomials" = some (.ref a_polynomials)
  a_terms : Addr
  fd_terms : FuncData
  F_terms : Fun K "_terms" "_terms" s_terms a_terms fd_terms
  b_terms : Binds K fd_terms ["numbers", "sizes"] []
  g_terms : mg "_terms" = some (.ref a_terms)
  a_degrees_of : Addr
  fd_degrees_of : FuncData
  F_degrees_of : Fun K "_degrees_of" "_degrees_of" s_degrees_of a_degrees_of fd_degrees_of
  b_degrees_of : Binds K fd_degrees_of ["program"] []
  g_degrees_of : mg "_degrees_of" = some (.ref a_degrees_of)
  a_law_mixed : Addr
  fd_law_mixed : FuncData
  F_law_mixed : Fun K "_law_mixed" "_law_mixed" s_law_mixed a_law_mixed fd_law_mixed
  b_law_mixed : Binds K fd_law_mixed ["number", "k"] []
  g_law_mixed : mg "_law_mixed" = some (.ref a_law_mixed)
  a_law_numbers : Addr
  fd_law_numbers : FuncData
  F_law_numbers : Fun K "_law_numbers" "_law_numbers" s_law_numbers a_law_numbers fd_law_numbers
  b_law_numbers : Binds K fd_law_numbers ["script"] []
  g_law_numbers : mg "_law_numbers" = some (.ref a_law_numbers)
  a_law_draw : Addr
  fd_law_draw : FuncData
  F_law_draw : Fun K "_law_draw" "_law_draw" s_law_draw a_law_draw fd_law_draw
  b_law_draw : Binds K fd_law_draw ["draws"] []
  g_law_draw : mg "_law_draw" = some (.ref a_law_draw)
  a_law_is_prime : Addr
  fd_law_is_prime : FuncData
  F_law_is_prime : Fun K "_law_is_prime" "_law_is_prime" s_law_is_prime a_law_is_prime fd_law_is_prime
  b_law_is_prime : Binds K fd_law_is_prime ["number"] []
  g_law_is_prime : mg "_law_is_prime" = some (.ref a_law_is_prime)
  a_law_kind : Addr
  fd_law_kind : FuncData
  F_law_kind : Fun K "_law_kind" "_law_kind" s_law_kind a_law_kind fd_law_kind
  b_law_kind : Binds K fd_law_kind ["refused"] []
  g_law_kind : mg "_law_kind" = some (.ref a_law_kind)
  a_law_judged : Addr
  fd_law_judged : FuncData
  F_law_judged : Fun K "_law_judged" "_law_judged" s_law_judged a_law_judged fd_law_judged
  b_law_judged : Binds K fd_law_judged ["program", "target"] []
  g_law_judged : mg "_law_judged" = some (.ref a_law_judged)
  a_law_expanded : Addr
  fd_law_expanded : FuncData
  F_law_expanded : Fun K "_law_expanded" "_law_expanded" s_law_expanded a_law_expanded fd_law_expanded
  b_law_expanded : Binds K fd_law_expanded ["program"] []
  g_law_expanded : mg "_law_expanded" = some (.ref a_law_expanded)
  a_law_size : Addr
  fd_law_size : FuncData
  F_law_size : Fun K "_law_size" "_law_size" s_law_size a_law_size fd_law_size
  b_law_size : Binds K fd_law_size ["draws"] []
  g_law_size : mg "_law_size" = some (.ref a_law_size)
  a_law : Addr
  fd_law : FuncData
  F_law : Fun K "law" "law" s_law a_law fd_law
  b_law : Binds K fd_law ["script"] []
  g_law : mg "law" = some (.ref a_law)
  a_Program___init : Addr
  fd_Program___init : FuncData
  F_Program___init : Fun K "__init__" "Program.__init__" s_Program___init a_Program___init fd_Program___init
  b_Program___init : Binds K fd_Program___init ["self", "modulus", "cells", "inputs", "steps"] []
  C_Program : Addr
  cl_Program : Cls K C_Program
  gc_Program : mg "Program" = some (.ref C_Program)
  na_Program_modulus : NoAttr K C_Program "modulus"
  na_Program_cells : NoAttr K C_Program "cells"
  na_Program_inputs : NoAttr K C_Program "inputs"
  na_Program_steps : NoAttr K C_Program "steps"
  ic_Program : C8.InsC K C_Program
  sf_Program : PySem.W.selfFirst K C_Program = true
  mk_Program : Mk K C_Program a_Program___init
  E_BrimfulError : Addr
  gE_BrimfulError : mg "BrimfulError" = some (.ref E_BrimfulError)
  xE_BrimfulError : PySem.W.excIn K E_BrimfulError [.type "ValueError", .type "Exception", .type "BaseException", .type "object"] "ValueError.__new__" = true
  kE_BrimfulError : PySem.W.keepIn K (.ref E_BrimfulError) = true
  bE_BrimfulError : PySem.W.subIn K (.ref E_BrimfulError) (.type "BaseException") = some true
  tE_BrimfulError : PySem.W.typeIn K (.ref E_BrimfulError) = some (.type "type")
  dE_BrimfulError : PySem.W.hasDictIn K E_BrimfulError = true
  cE_BrimfulError : L2.ExcC K E_BrimfulError
  E_BadStep : Addr
  gE_BadStep : mg "BadStep" = some (.ref E_BadStep)
  xE_BadStep : PySem.W.excIn K E_BadStep [.type "ValueError", .type "Exception", .type "BaseException", .type "object"] "ValueError.__new__" = true
  kE_BadStep : PySem.W.keepIn K (.ref E_BadStep) = true
  bE_BadStep : PySem.W.subIn K (.ref E_BadStep) (.type "BaseException") = some true
  tE_BadStep : PySem.W.typeIn K (.ref E_BadStep) = some (.type "type")
  dE_BadStep : PySem.W.hasDictIn K E_BadStep = true
  cE_BadStep : L2.ExcC K E_BadStep
  E_BadMemory : Addr
  gE_BadMemory : mg "BadMemory" = some (.ref E_BadMemory)
  xE_BadMemory : PySem.W.excIn K E_BadMemory [.type "ValueError", .type "Exception", .type "BaseException", .type "object"] "ValueError.__new__" = true
  kE_BadMemory : PySem.W.keepIn K (.ref E_BadMemory) = true
  bE_BadMemory : PySem.W.subIn K (.ref E_BadMemory) (.type "BaseException") = some true
  tE_BadMemory : PySem.W.typeIn K (.ref E_BadMemory) = some (.type "type")
  dE_BadMemory : PySem.W.hasDictIn K E_BadMemory = true
  cE_BadMemory : L2.ExcC K E_BadMemory
  E_TooLong : Addr
  gE_TooLong : mg "TooLong" = some (.ref E_TooLong)
  xE_TooLong : PySem.W.excIn K E_TooLong [.type "ValueError", .type "Exception", .type "BaseException", .type "object"] "ValueError.__new__" = true
  kE_TooLong : PySem.W.keepIn K (.ref E_TooLong) = true
  bE_TooLong : PySem.W.subIn K (.ref E_TooLong) (.type "BaseException") = some true
  tE_TooLong : PySem.W.typeIn K (.ref E_TooLong) = some (.type "type")
  dE_TooLong : PySem.W.hasDictIn K E_TooLong = true
  cE_TooLong : L2.ExcC K E_TooLong
  sE_BrimfulError_BrimfulError : PySem.W.subIn K (.ref E_BrimfulError) (.ref E_BrimfulError) = some true
  sE_BrimfulError_BadStep : PySem.W.subIn K (.ref E_BrimfulError) (.ref E_BadStep) = some false
  sE_BrimfulError_BadMemory : PySem.W.subIn K (.ref E_BrimfulError) (.ref E_BadMemory) = some false
  sE_BrimfulError_TooLong : PySem.W.subIn K (.ref E_BrimfulError) (.ref E_TooLong) = some false
  sE_BadStep_BrimfulError : PySem.W.subIn K (.ref E_BadStep) (.ref E_BrimfulError) = some true
  sE_BadStep_BadStep : PySem.W.subIn K (.ref E_BadStep) (.ref E_BadStep) = some true
  sE_BadStep_BadMemory : PySem.W.subIn K (.ref E_BadStep) (.ref E_BadMemory) = some false
  sE_BadStep_TooLong : PySem.W.subIn K (.ref E_BadStep) (.ref E_TooLong) = some false
  sE_BadMemory_BrimfulError : PySem.W.subIn K (.ref E_BadMemory) (.ref E_BrimfulError) = some true
  sE_BadMemory_BadStep : PySem.W.subIn K (.ref E_BadMemory) (.ref E_BadStep) = some false
  sE_BadMemory_BadMemory : PySem.W.subIn K (.ref E_BadMemory) (.ref E_BadMemory) = some true
  sE_BadMemory_TooLong : PySem.W.subIn K (.ref E_BadMemory) (.ref E_TooLong) = some false
  sE_TooLong_BrimfulError : PySem.W.subIn K (.ref E_TooLong) (.ref E_BrimfulError) = some true
  sE_TooLong_BadStep : PySem.W.subIn K (.ref E_TooLong) (.ref E_BadStep) = some false
  sE_TooLong_BadMemory : PySem.W.subIn K (.ref E_TooLong) (.ref E_BadMemory) = some false
  sE_TooLong_TooLong : PySem.W.subIn K (.ref E_TooLong) (.ref E_TooLong) = some true
  m_all : mg "all" = none
  m_any : mg "any" = none
  m_bool : mg "bool" = none
  m_enumerate : mg "enumerate" = none
  m_int : mg "int" = none
  m_isinstance : mg "isinstance" = none
  m_len : mg "len" = none
  m_list : mg "list" = none
  m_max : mg "max" = none
  m_min : mg "min" = none
  m_range : mg "range" = none
  m_sum : mg "sum" = none
  m_tuple : mg "tuple" = none
  m_zip : mg "zip" = none
  m_gcd : mg "gcd" = some (.builtin "math.gcd")
  m_isqrt : mg "isqrt" = some (.builtin "math.isqrt")
  t_GREATEST_EFFORT : Tok
  c_GREATEST_EFFORT : mg "GREATEST_EFFORT" = some (.int 400000 t_GREATEST_EFFORT)
  t_GREATEST_MODULUS : Tok
  c_GREATEST_MODULUS : mg "GREATEST_MODULUS" = some (.int 1000000000 t_GREATEST_MODULUS)
  t_MOST_CELLS : Tok
  c_MOST_CELLS : mg "MOST_CELLS" = some (.int 60 t_MOST_CELLS)
  t_MOST_FACTORS : Tok
  c_MOST_FACTORS : mg "MOST_FACTORS" = some (.int 3 t_MOST_FACTORS)
  t_MOST_INPUTS : Tok
  c_MOST_INPUTS : mg "MOST_INPUTS" = some (.int 60 t_MOST_INPUTS)
  t_MOST_STEPS : Tok
  c_MOST_STEPS : mg "MOST_STEPS" = some (.int 20000 t_MOST_STEPS)
end Br
namespace Br
open PySem PySem.Spec PyProof.Rows L2
local macro_rules | `(tactic| walk_at "x1") => `(tactic| (with_reducible first
  | refine Br.x_seq ?_ | refine Br.x_set ?_ | refine Br.x_asg ?_ | refine Br.x_next ?_ | refine Br.x_ret ?_ | refine Br.x_retN ?_ | refine Br.x_drop ?_ | refine Br.x_if ?_ | refine Br.x_brk ?_ | refine Br.x_cont ?_
  | refine Br.x_c ?_ | refine Br.x_op ?_ | refine Br.x_un ?_ | refine Br.x_I0 ?_ | refine Br.x_U ?_ | refine Br.x_EqI ?_ | refine Br.x_NeI ?_ | refine Br.x_EqB ?_ | refine Br.x_iN ?_ | refine Br.x_int1 ?_ | refine Br.x_min2 ?_ | refine Br.x_max2 ?_ | refine Br.x_nN ?_ | refine Br.x_ifE ?_
  | refine Br.x_test (b := ()) ?_ | refine Br.x_tB ?_ | refine Br.x_bl ?_ | refine Br.x_and ?_ | refine Br.x_or ?_ | refine Br.x_not ?_ | refine Br.x_andV ?_ | refine Br.x_orV ?_ | refine Br.x_notV ?_ | refine Br.x_blP ?_
  | refine Br.x_nil ?_ | refine Br.x_cons ?_ | refine Br.x_call ?_ | refine Br.x_CB ?_ | refine Br.x_BM ?_ | refine Br.x_tup ?_ | refine Br.x_lst ?_ | refine Br.x_chain ?_ | refine Br.x_par ?_ | refine Br.x_gSub ?_ | refine Br.x_gName ?_ | refine Br.x_fld ?_ | refine Br.x_fldS ?_ | refine Br.x_match ?_ | refine Br.x_else ?_ | refine Br.x_noCase ?_))
local macro_rules | `(tactic| walk_at "xv") => `(tactic| ((with_reducible refine' Br.x_var ?hvar ?_); (case hvar => rfl)))
local macro_rules | `(tactic| walk_at "xd") => `(tactic| (dsimp only [List.set_cons_zero, List.set_cons_succ, List.cons_append, List.nil_append, List.append_nil]))
local macro_rules | `(tactic| walk_at "xi") => `(tactic| ((with_reducible refine Br.x_I ?hside ?_); (case hside => first | exact Br.mul_r (by decide) (by decide) | exact Br.mul_l (by decide) (by decide) | exact Br.mul_l (by omega) (by omega) | exact Br.mul_r (by omega) (by omega) | (show (0 : Int) < _; first | decide | omega) | exact ⟨by decide, by decide⟩ | exact ⟨by omega, by omega⟩ | exact ⟨by decide, by decide, by decide⟩)))
local macro_rules | `(tactic| walk_at "x") => `(tactic| (repeat (first | walk_at "x1" | walk_at "xv" | walk_at "xi" | walk_at "xd")))
local macro_rules | `(tactic| walk_at "start") => `(tactic| (simp only [L2.start, List.map_cons, List.map_nil, List.length_cons, List.length_nil, Nat.reduceAdd, Nat.reduceSub, List.replicate, List.cons_append, List.nil_append, List.append_nil]))
local macro_rules | `(tactic| walk_at "isi") => `(tactic| first
  | refine Br.x_isi (b := true) (.base (.int _)) (by decide +kernel) ?_ | refine Br.x_isi (b := false) (.base (.int _)) (by decide +kernel) ?_
  | refine Br.x_isi (b := true) (.base (.bl _)) (by decide +kernel) ?_ | refine Br.x_isi (b := false) (.base (.bl _)) (by decide +kernel) ?_
  | refine Br.x_isi (b := false) (.base .non) (by decide +kernel) ?_
  | refine Br.x_isi (b := true) (.base (.str _)) (by decide +kernel) ?_ | refine Br.x_isi (b := false) (.base (.str _)) (by decide +kernel) ?_
  | refine Br.x_isi (b := true) (.base (.tup (by assumption))) (by decide +kernel) ?_ | refine Br.x_isi (b := false) (.base (.tup (by assumption))) (by decide +kernel) ?_
  | refine Br.x_isi (b := true) (.base (.lst (by assumption))) (by decide +kernel) ?_ | refine Br.x_isi (b := false) (.base (.lst (by assumption))) (by decide +kernel) ?_)
local macro_rules | `(tactic| walk_at "f") => `(tactic| (refine L2.iteF ?_; walk_at "x"))
local macro_rules | `(tactic| walk_at "t") => `(tactic| (refine L2.iteT ?_; walk_at "x"))
local macro_rules | `(tactic| walk_at "is") => `(tactic| (walk_at "isi"; walk_at "x"))
local macro_rules | `(tactic| walk_at "xb") => `(tactic| (simp only [Br.bindS, List.set_cons_zero, List.set_cons_succ]; walk_at "x"))

section
variable {P : Program} {w : World} {K : PySem.W.Frag} {mg : Str → Option Value} {base : Heap}

/-! ### the draws -/
/-- the draws at d: a list of a list of numbers (at n) and a place -/
def Dr (H : Hp) (d n : Addr) : Prop := ∃ (ns : List Int) (k : Int), H d = some (.lst [.ref n, .int k]) ∧ H n = some (.lst (ns.map V.int)) ∧ Rg 0 1000000 ns ∧ 0 ≤ k ∧ ns.length ≤ 3780
theorem Dr.ne {H : Hp} {d n : Addr} (h : Dr H d n) : H d ≠ none := by
  obtain ⟨_, _, h, _⟩ := h
  rw [h]
  exact fun z => nomatch z
theorem Dr.new {H : Hp} {d n p : Addr} (h : Dr H d n) (hp : H p = none) : p ≠ d := fun e => h.ne (e ▸ hp)
theorem Dr.newN {H : Hp} {d n p : Addr} (h : Dr H d n) (hp : H p = none) : p ≠ n := fun e => by
  obtain ⟨_, _, _, h2, _⟩ := h
  rw [← e, hp] at h2
  cases h2
theorem Dr.dn {H : Hp} {d n : Addr} (h : Dr H d n) : d ≠ n := by
  obtain ⟨ns, k, h1, h2, _⟩ := h
  exact ne_of h1 h2 (by
    intro e
    have e1 : [V.ref n, V.int k] = ns.map V.int := HO.lst.inj e
    cases ns with
    | nil => cases e1
    | cons x r => cases (List.cons.inj e1).1)
/-- changes elsewhere -/
theorem Dr.upd {H : Hp} {d n p : Addr} {o : HO} (h : Dr H d n) (hd : p ≠ d) (hn : p ≠ n) : Dr (upd H p o) d n := by
  obtain ⟨ns, k, h1, h2, h3⟩ := h
  exact ⟨ns, k, by rw [upd_ne hd.symm]; exact h1, by rw [upd_ne hn.symm]; exact h2, h3⟩
theorem Dr.upd0 {H : Hp} {d n p : Addr} {o : HO} (h : Dr H d n) (hp : H p = none) : Dr (L2.upd H p o) d n := h.upd (h.new hp) (h.newN hp)
theorem Dr.same {H H' : Hp} {d n : Addr} (h : Dr H d n) (s : Same H H') : Dr H' d n := by
  obtain ⟨ns, k, h1, h2, h3⟩ := h
  exact ⟨ns, k, s _ _ h1, s _ _ h2, h3⟩
/-- what is fresh behind was fresh ahead -/
theorem Keep.free {H H' : Hp} {d n p : Addr} (s : Keep d H H') (h : Dr H' d n) (hp : H' p = none) : H p = none := by
  cases e : H p with
  | none => rfl
  | some o =>
    by_cases hd : p = d
    · rw [hd] at hp
      exact absurd hp h.ne
    · rw [s p o e hd] at hp
      cases hp
theorem Dr.mk {H : Hp} {d n : Addr} {ns : List Int} (hn : H n = some (.lst (ns.map V.int))) (hr : Rg 0 1000000 ns) (hl : ns.length ≤ 3780) (hd : H d = none) : Dr (L2.upd H d (.lst [.ref n, .int 0])) d n :=
  ⟨ns, 0, upd_same, by rw [upd_ne (ne_of_none hn hd)]; exact hn, hr, Int.le_refl _, hl⟩
/-- what a def that draws gives: a value of which P, the draws moved on -/
abbrev RetD (d n : Addr) (P : V → Prop) (H : Hp) (Q : VK) : Prop := ∀ v H', P v → Dr H' d n → Keep d H H' → Q v H'
abbrev RetG (d n : Addr) (P : V → Hp → Prop) (H : Hp) (Q : VK) : Prop := ∀ v H', P v H' → Dr H' d n → Keep d H H' → Q v H'
abbrev IsI (lo hi : Int) : V → Prop := fun v => ∃ z : Int, v = .int z ∧ lo ≤ z ∧ z < hi

def sp_law_mixed (K : PySem.W.Frag) : Sp := fun vs H Q _ => ∃ i k : Int, vs = [.int i, .int k] ∧ ∀ r : Int, 0 ≤ r → r < 2147483647 → Q (.int r) H
theorem ok_law_mixed (T : Txt K mg) : FnOk P w K mg base CX0 1 T.a_law_mixed T.fd_law_mixed ["number", "k"] (sp_law_mixed K) := by
  refine T.F_law_mixed.ok sc_law_mixed (fun vs H Q E h => ?_) (fun cdv A outer s H vs Q E hr h => ?_)
  · obtain ⟨i, k, rfl, _⟩ := h
    rfl
  · obtain ⟨i, k, rfl, q⟩ := h
    refine ⟨_, (pss_cons (ps_set (i := 2) sc_law_mixed.nd rfl (.inl rfl) (pe_op op_mod (pe_op op_add (pe_op op_add (pe_op op_mul (pv 0) pe_int) (pe_op op_mul (pv 1) pe_int)) pe_int) pe_int))
      (pss_one (ps_ret (pe_op op_mod (pe_op op_add (pe_op op_mul (pv 2) (pe_op op_add (pe_op op_fdiv (pv 2) pe_int) pe_int)) (pv 1)) pe_int)))), ?_⟩
    walk_at "start"
    walk_at "x"
    exact q _ (Int.emod_nonneg _ (by decide)) (Int.emod_lt_of_pos _ (by decide))


def sp_law_numbers (K : PySem.W.Frag) : Sp := fun vs H Q _ => ∃ (a : Addr) (ns : List Int), vs = [.ref a] ∧ SqL K H a (ns.map V.int) ∧ ns.length ≤ 63 ∧
  ∀ (p : Addr) (ms : List Int) (H' : Hp), H p = none → Same H H' → H' p = some (.lst (ms.map V.int)) → Rg 0 1000000 ms → ms.length ≤ 3780 → Q (.ref p) H'
/-- the numbers so far -/
def NumI (H : Hp) (p : Addr) (n : Nat) (H' : Hp) : Prop := ∃ ms : List Int, Same H H' ∧ H' p = some (.lst (ms.map V.int)) ∧ Rg 0 1000000 ms ∧ ms.length ≤ n
theorem NumI.app {H H' : Hp} {p : Addr} {n : Nat} (h : NumI H p n H') (hp : H p = none) (hn : n ≤ 100000) {R : VK} {z : Int} (h1 : 0 ≤ z) (h2 : z < 1000000) (q : ∀ H2, NumI H p (n + 1) H2 → R .non H2) : rAppend (.ref p) [.int z] H' R := by
  obtain ⟨ms, s, e, r, l⟩ := h
  refine x_app e (by rw [List.length_map]; omega) (q _ ⟨ms ++ [z], sput s hp, ?_, r.snoc h1 h2, ?_⟩)
  · rw [upd_same, List.map_append]; rfl
  · rw [List.length_append]; exact Nat.add_le_add_right l 1
theorem NumI.ty {K : PySem.W.Frag} {H H' : Hp} {p : Addr} {n : Nat} (h : NumI H p n H') {R : Prop} (q : R) : tyV K "list" (.ref p) H' ∧ R := by
  obtain ⟨ms, s, e, r, l⟩ := h
  exact x_tyL e q
theorem NumI.mono {H H' : Hp} {p : Addr} {n m : Nat} (h : NumI H p n H') (l : n ≤ m) : NumI H p m H' := by
  obtain ⟨ms, s, e, r, k⟩ := h
  exact ⟨ms, s, e, r, Nat.le_trans k l⟩
theorem ok_law_numbers (T : Txt K mg) : FnOk P w K mg base CX0 2 T.a_law_numbers T.fd_law_numbers ["script"] (sp_law_numbers K) := by
  refine T.F_law_numbers.ok sc_law_numbers (fun vs H Q E h => ?_) (fun cdv A outer s H vs Q E hr h => ?_)
  · obtain ⟨a, ns, rfl, _⟩ := h
    rfl
  · obtain ⟨a, ns, rfl, hS, hl, q⟩ := h
    refine ⟨_, (pss_cons (ps_set (i := 1) sc_law_numbers.nd rfl (.inl rfl) (pe_lst pa_nil))
      (pss_cons (ps_for PassesOwn.never rfl (pi_list (pv 0)) (pg_name (i := 2) sc_law_numbers.nd rfl (Or.inl rfl))
      (pss_one (ps_if (pt_cmpR op_ge (pv 2) (pe_op op_pow pe_int pe_int) (nomark _))
      (pss_cons (ps_set (i := 3) sc_law_numbers.nd rfl (.inl rfl) (pv 2))
      (pss_one (ps_for PassesOwn.never rfl (pi_range1 (by rfl) T.m_range (pa_cons pe_int pa_nil)) (pg_name (i := 4) sc_law_numbers.nd rfl (Or.inl rfl))
      (pss_one (ps_if (pt_cmpR op_gt (pv 3) pe_int (nomark _))
      (pss_cons (ps_expr (pe_bm PySem.F.plainAttrs_list PySem.F.slot_list_append PySem.F.type_list_append mt_append (pv 1) (pa_cons (pe_op op_mod (pv 3) pe_int) pa_nil)))
      (pss_one (ps_set (i := 3) sc_law_numbers.nd rfl (.inl rfl) (pe_op op_fdiv (pv 3) pe_int))))
      pss_nil)))))
      (pss_cons (ps_expr (pe_bm PySem.F.plainAttrs_list PySem.F.slot_list_append PySem.F.type_list_append mt_append (pv 1) (pa_cons (pe_op op_mod (pv 2) pe_int) pa_nil)))
      (pss_one (ps_for PassesOwn.never rfl (pi_range1 (by rfl) T.m_range (pa_cons pe_int pa_nil)) (pg_name (i := 4) sc_law_numbers.nd rfl (Or.inl rfl))
      (pss_one (ps_expr (pe_bm PySem.F.plainAttrs_list PySem.F.slot_list_append PySem.F.type_list_append mt_append (pv 1) (pa_cons (pe_op op_mod (pe_call (ok_law_mixed T) hr (by rfl) T.g_law_mixed T.F_law_mixed.kp T.b_law_mixed .nil pass0 (pa_cons (pe_call (ok_law_mixed T) hr (by rfl) T.g_law_mixed T.F_law_mixed.kp T.b_law_mixed .nil pass0 (pa_cons (pe_op op_mod (pv 2) pe_int) (pa_cons (pv 4) pa_nil))) (pa_cons (pe_op op_add (pv 4) pe_int) pa_nil))) pe_int) pa_nil))))))))))
      (pss_one (ps_ret (pv 1))))), ?_⟩
    walk_at "start"
    walk_at "x"
    refine ⟨Nat.zero_le _, fun p hp => ?_⟩
    walk_at "x"
    refine x_forL (p := a) (ns.map V.int) (fun i σ' H' => ∃ v2 v3 v4, σ' = [some (.ref a), some (.ref p), v2, v3, v4] ∧ NumI H p (60 * i) H') (fun R r => ⟨_, rfl, r⟩) ((same_upd hp).seq hS) ?_ ?_ ?_ ?_
    · exact ⟨none, none, none, rfl, [], same_upd hp, upd_same, .nil, Nat.le_refl _⟩
    · rintro i σ' H' hi ⟨v2, v3, v4, rfl, ms, s, _⟩
      exact s.seq hS
    · rintro i x σ' H' hx ⟨v2, v3, v4, rfl, hN⟩
      obtain ⟨z, hz, rfl⟩ := map_get hx
      have hi : i < 63 := by
        have := (List.getElem?_eq_some_iff.mp hz).1
        omega
      walk_at "x"
      refine x_ite (fun hc => ?_) (fun hc => ?_)
      · walk_at "x"
        refine x_forR1 60 (fun j σ' H' => ∃ r v4, σ' = [some (.ref a), some (.ref p), some (.int z), some (.int r), v4] ∧ NumI H p (60 * i + j) H') (fun R r => r) (by decide) (by decide) ⟨z, v4, rfl, hN⟩ ?_ ?_
        · rintro j σ' H2 hj ⟨r, v4, rfl, hN⟩
          walk_at "x"
          refine x_ite (fun hc => ?_) (fun hc => ?_)
          · walk_at "x"
            refine hN.ty ?_
            walk_at "x"
            refine hN.app hp (by omega) (Int.emod_nonneg _ (by decide)) (Int.emod_lt_of_pos _ (by decide)) fun H3 hN3 => ?_
            walk_at "x"
            exact ⟨_, _, rfl, hN3⟩
          · walk_at "x"
            exact ⟨r, _, rfl, hN.mono (by omega)⟩
        · rintro σ' H2 ⟨r, v4, rfl, hN⟩
          exact ⟨_, _, _, rfl, hN.mono (by show 60 * i + (60 : Int).toNat ≤ 60 * (i + 1); omega)⟩
      · walk_at "x"
        refine hN.ty ?_
        walk_at "x"
        refine hN.app hp (by omega) (Int.emod_nonneg _ (by decide)) (Int.emod_lt_of_pos _ (by decide)) fun H3 hN3 => ?_
        walk_at "x"
        refine x_forR1 5 (fun j σ' H' => ∃ v4, σ' = [some (.ref a), some (.ref p), some (.int z), v3, v4] ∧ NumI H p (60 * i + 1 + j) H') (fun R r => r) (by decide) (by decide) ⟨v4, rfl, hN3⟩ ?_ ?_
        · rintro j σ' H2 hj ⟨v4, rfl, hN⟩
          walk_at "x"
          refine hN.ty ?_
          walk_at "x"
          refine ⟨_, _, rfl, fun r h0 h1 => ?_⟩
          walk_at "x"
          refine ⟨_, _, rfl, fun r h0 h1 => ?_⟩
          walk_at "x"
          refine hN.app hp (by omega) (Int.emod_nonneg _ (by decide)) (Int.emod_lt_of_pos _ (by decide)) fun H3 hN3 => ?_
          walk_at "x"
          exact ⟨_, rfl, hN3⟩
        · rintro σ' H2 ⟨v4, rfl, hN⟩
          exact ⟨_, _, _, rfl, hN.mono (by show 60 * i + 1 + (5 : Int).toNat ≤ 60 * (i + 1); omega)⟩
    · rintro σ' H' ⟨v2, v3, v4, rfl, ms, s, e, r, l⟩
      walk_at "x"
      exact q p ms H' hp s e r (by rw [List.length_map] at l; omega)


def sp_law_draw (K : PySem.W.Frag) : Sp := fun vs H Q _ => ∃ (d n : Addr), vs = [.ref d] ∧ Dr H d n ∧ RetD d n (IsI 0 1000000) H Q
theorem ok_law_draw (T : Txt K mg) : FnOk P w K mg base CX0 2 T.a_law_draw T.fd_law_draw ["draws"] (sp_law_draw K) := by
  refine T.F_law_draw.ok sc_law_draw (fun vs H Q E h => ?_) (fun cdv A outer s H vs Q E hr h => ?_)
  · obtain ⟨d, n, rfl, _⟩ := h
    rfl
  · obtain ⟨d, n, rfl, hD, q⟩ := h
    have hn := hD.dn
    obtain ⟨ns, k, h1, h2, h3, h4, h5⟩ := hD
    have hD : Dr (upd H d (.lst [.ref n, .int (k + 1)])) d n := ⟨ns, k + 1, upd_same, by rw [upd_ne hn.symm]; exact h2, h3, by omega, h5⟩
    refine ⟨_, (pss_cons (ps_set (i := 1) sc_law_draw.nd rfl (.inl rfl) (pe_ix (r := rIxL K) ix_list (pv 0) pe_int (fun _ _ => rfl)))
      (pss_cons (ps_asg (pe_op op_add (pv 1) pe_int) (pg_sub (pv 0) pe_int set_list))
      (pss_cons (ps_if (pt_cmpR op_lt (pv 1) (pe_callB (id := "len") (r := rLen K) cr_len (by rfl) T.m_len PySem.boot_len (pa_cons (pe_ix (r := rIxL K) ix_list (pv 0) pe_int (fun _ _ => rfl)) pa_nil)) (nomark _))
      (pss_one (ps_ret (pe_ix (r := rIxL K) ix_list (pe_ix (r := rIxL K) ix_list (pv 0) pe_int (fun _ _ => rfl)) (pv 1) (fun _ _ => rfl))))
      pss_nil)
      (pss_cons (ps_set (i := 2) sc_law_draw.nd rfl (.inl rfl) (pe_op op_add pe_int (pv 1)))
      (pss_cons (ps_if (pt_cmpR op_gt (pe_callB (id := "len") (r := rLen K) cr_len (by rfl) T.m_len PySem.boot_len (pa_cons (pe_ix (r := rIxL K) ix_list (pv 0) pe_int (fun _ _ => rfl)) pa_nil)) pe_int (nomark _))
      (pss_one (ps_set (i := 2) sc_law_draw.nd rfl (.inl rfl) (pe_op op_add (pv 2) (pe_op op_mul pe_int (pe_ix (r := rIxL K) ix_list (pe_ix (r := rIxL K) ix_list (pv 0) pe_int (fun _ _ => rfl)) pe_int (fun _ _ => rfl))))))
      pss_nil)
      (pss_one (ps_ret (pe_op op_mod (pe_call (ok_law_mixed T) hr (by rfl) T.g_law_mixed T.F_law_mixed.kp T.b_law_mixed .nil pass0 (pa_cons (pe_call (ok_law_mixed T) hr (by rfl) T.g_law_mixed T.F_law_mixed.kp T.b_law_mixed .nil pass0 (pa_cons (pv 2) (pa_cons (pv 1) pa_nil))) (pa_cons pe_int pa_nil))) pe_int)))))))), ?_⟩
    walk_at "start"
    walk_at "x"
    refine x_ixL (sq_of h1) (show _ = some (V.int k) from rfl) ?_
    walk_at "x"
    refine x_subL (k := 1) h1 rfl ?_
    walk_at "x"
    have hd : (upd H d (HO.lst [.ref n, .int (k + 1)])) d = some (.lst [.ref n, .int (k + 1)]) := upd_same
    have hnn : (upd H d (HO.lst [.ref n, .int (k + 1)])) n = some (.lst (ns.map V.int)) := by rw [upd_ne hn.symm]; exact h2
    refine x_ixL (sq_of hd) (show _ = some (V.ref n) from rfl) ?_
    walk_at "x"
    refine x_len (sq_of hnn) ?_
    walk_at "x"
    rw [List.length_map]
    refine x_ite (fun hc => ?_) (fun hc => ?_)
    · walk_at "x"
      refine x_ixL (sq_of hd) (show _ = some (V.ref n) from rfl) ?_
      walk_at "x"
      obtain ⟨j, rfl⟩ : ∃ j : Nat, k = (j : Int) := ⟨k.toNat, by omega⟩
      have hj : j < ns.length := by omega
      refine x_ixL (v := .int ns[j]) (sq_of hnn) (atI_nat (by rw [List.getElem?_map, List.getElem?_eq_getElem hj]; rfl)) ?_
      exact q _ _ ⟨_, rfl, h3 _ (List.getElem_mem hj)⟩ hD keep_upd
    · walk_at "x"
      refine x_ixL (sq_of hd) (show _ = some (V.ref n) from rfl) ?_
      walk_at "x"
      refine x_len (sq_of hnn) ?_
      walk_at "x"
      rw [List.length_map]
      refine x_ite (fun hc => ?_) (fun hc => ?_)
      · walk_at "x"
        refine x_ixL (sq_of hd) (show _ = some (V.ref n) from rfl) ?_
        walk_at "x"
        have hj : 0 < ns.length := by omega
        refine x_ixL (v := .int ns[0]) (sq_of hnn) (atI_nat (j := 0) (by rw [List.getElem?_map, List.getElem?_eq_getElem hj]; rfl)) ?_
        walk_at "x"
        refine ⟨_, _, rfl, fun r h0 h1 => ?_⟩
        walk_at "x"
        refine ⟨_, _, rfl, fun r h0 h1 => ?_⟩
        walk_at "x"
        exact q _ _ ⟨_, rfl, Int.emod_nonneg _ (by decide), Int.emod_lt_of_pos _ (by decide)⟩ hD keep_upd
      · walk_at "x"
        refine ⟨_, _, rfl, fun r h0 h1 => ?_⟩
        walk_at "x"
        refine ⟨_, _, rfl, fun r h0 h1 => ?_⟩
        walk_at "x"
        exact q _ _ ⟨_, rfl, Int.emod_nonneg _ (by decide), Int.emod_lt_of_pos _ (by decide)⟩ hD keep_upd



/-- what inverse_of gives -/
def InvV (n m : Int) (v : V) : Prop := (Int.gcd n m ≠ 1 → v = .non) ∧ (Int.gcd n m = 1 → ∃ x : Int, v = .int x ∧ 0 ≤ x ∧ x < m ∧ x * n % m = 1)
def sp_inverse_of (K : PySem.W.Frag) : Sp := fun vs H Q _ => ∃ n m : Int, vs = [.int n, .int m] ∧ 2 ≤ m ∧ m ≤ 1000000000 ∧ ∀ v H', InvV n m v → Same H H' → Q v H'
theorem ok_inverse_of (T : Txt K mg) : FnOk P w K mg base CX0 1 T.a_inverse_of T.fd_inverse_of ["n", "modulus"] (sp_inverse_of K) := by
  refine T.F_inverse_of.ok sc_inverse_of (fun vs H Q E h => ?_) (fun cdv A outer s H vs Q E hr h => ?_)
  · obtain ⟨n, m, rfl, _⟩ := h
    rfl
  · obtain ⟨n, m, rfl, hm2, hm9, q⟩ := h
    refine ⟨_, (pss_cons (ps_par (i := 2) (j := 3) rfl sc_inverse_of.nd rfl rfl (by decide) rfl rfl (pa_cons (pv 1) (pa_cons (pe_op op_mod (pv 0) (pv 1)) pa_nil)) (by rfl))
      (pss_cons (ps_asg (pe_tup (pa_cons pe_int (pa_cons pe_int pa_nil))) (pg_tup rfl (pgs_cons (pg_name (i := 4) sc_inverse_of.nd rfl (Or.inl rfl)) (pgs_cons (pg_name (i := 5) sc_inverse_of.nd rfl (Or.inl rfl)) pgs_nil))))
      (pss_cons (ps_while PassesOwn.never (pt_cmpR op_ne (pv 3) pe_int (nomark _))
      (pss_cons (ps_set (i := 6) sc_inverse_of.nd rfl (.inl rfl) (pe_op op_fdiv (pv 2) (pv 3)))
      (pss_cons (ps_par (i := 2) (j := 3) rfl sc_inverse_of.nd rfl rfl (by decide) rfl rfl (pa_cons (pv 3) (pa_cons (pe_op op_sub (pv 2) (pe_op op_mul (pv 6) (pv 3))) pa_nil)) (by rfl))
      (pss_one (ps_par (i := 4) (j := 5) rfl sc_inverse_of.nd rfl rfl (by decide) rfl rfl (pa_cons (pv 5) (pa_cons (pe_op op_sub (pv 4) (pe_op op_mul (pv 6) (pv 5))) pa_nil)) (by rfl))))))
      (pss_one (ps_ret (pe_ifExp (pt_cmpR op_eq (pv 2) pe_int (nomark _)) (pe_op op_mod (pv 4) (pv 1)) pe_non)))))), ?_⟩
    walk_at "start"
    walk_at "x"
    have r0 := Int.emod_nonneg n (show m ≠ 0 by omega)
    have r1 := Int.emod_lt_of_pos n (show 0 < m by omega)
    refine ⟨by show 2 ≤ sizeLine; decide, fun p hp => x_gTup2 (st_of upd_same) ?_⟩
    walk_at "x"
    refine x_while (fun k σ' H' => Same H H' ∧ ∃ l r lf rf v6, σ' = [some (.int n), some (.int m), some (.int l), some (.int r), some (.int lf), some (.int rf), v6] ∧ k = r.toNat ∧ 0 ≤ r ∧ r < l ∧ l ≤ 1000000000 ∧ Int.gcd l r = Int.gcd n m ∧ (m ∣ lf * n - l) ∧ (m ∣ rf * n - r)) (n % m).toNat ?_ ?_
    · refine ⟨same_upd hp, _, _, _, _, _, rfl, rfl, r0, r1, hm9, ?_, ?_, ?_⟩
      · rw [gcd_step]
      · exact ⟨-1, by omega⟩
      · refine ⟨n / m, ?_⟩
        have := Int.mul_ediv_add_emod n m
        omega
    · rintro k σ' H' ⟨hs, l, r, lf, rf, v6, rfl, rfl, hr0, hrl, hl, hg, hd1, hd2⟩
      refine ⟨!decide (r = 0), fun R z => by walk_at "x"; exact z, fun hb => ?_, fun hb => ?_⟩
      · have hr : r ≠ 0 := by simpa using hb
        have hd0 : 0 ≤ l / r := Int.ediv_nonneg (by omega) hr0
        have hd3 : l / r ≤ l := Int.ediv_le_self _ (by omega)
        have e : l - l / r * r = l % r := by rw [Int.emod_def, Int.mul_comm r]
        have s0 := Int.emod_nonneg l hr
        have s1 := Int.emod_lt_of_pos l (show 0 < r by omega)
        walk_at "x"
        refine ⟨(l % r).toNat, by omega, hs, r, l - l / r * r, rf, lf - l / r * rf, _, rfl, by rw [e], by omega, by omega, by omega, by rw [e, gcd_step]; exact hg, hd2, ?_⟩
        obtain ⟨u, hu⟩ := hd1
        obtain ⟨w', hw⟩ := hd2
        refine ⟨u - l / r * w', ?_⟩
        have e2 : (lf - l / r * rf) * n = lf * n - l / r * (rf * n) := by rw [Int.sub_mul, Int.mul_assoc]
        have e3 : rf * n = r + m * w' := by omega
        rw [e2, e3, Int.mul_add, Int.mul_sub]
        have e4 : l / r * (m * w') = m * (l / r * w') := by
          rw [← Int.mul_assoc, ← Int.mul_assoc, Int.mul_comm (l / r) m]
        omega
      · have hr : r = 0 := by simpa using hb
        subst hr
        rw [Int.gcd_zero_right] at hg
        walk_at "x"
        have hl0 : ((Int.gcd n m : Nat) : Int) = l := by omega
        refine x_ite (fun hc => ?_) (fun hc => ?_)
        · walk_at "x"
          refine q _ _ ⟨fun h => absurd (show Int.gcd n m = 1 by omega) h, fun _ => ⟨_, rfl, Int.emod_nonneg _ (by omega), Int.emod_lt_of_pos _ (by omega), ?_⟩⟩ hs
          rw [Int.mul_emod, Int.emod_emod, ← Int.mul_emod]
          obtain ⟨u, hu⟩ := hd1
          have e : lf * n = 1 + m * u := by omega
          rw [e, Int.add_mul_emod_self_left]
          exact Int.emod_eq_of_lt (by decide) (by omega)
        · walk_at "x"
          exact q _ _ ⟨fun _ => rfl, fun h => absurd (show l = 1 by omega) hc⟩ hs


end
end Br
namespace Br
open PySem PySem.Spec PyProof.Rows L2
local macro_rules | `(tactic| walk_at "x1") => `(tactic| (with_reducible first
  | refine Br.x_seq ?_ | refine Br.x_set ?_ | refine Br.x_asg ?_ | refine Br.x_next ?_ | refine Br.x_ret ?_ | refine Br.x_retN ?_ | refine Br.x_drop ?_ | refine Br.x_if ?_ | refine Br.x_brk ?_ | refine Br.x_cont ?_
  | refine Br.x_c ?_ | refine Br.x_op ?_ | refine Br.x_un ?_ | refine Br.x_I0 ?_ | refine Br.x_U ?_ | refine Br.x_EqI ?_ | refine Br.x_NeI ?_ | refine Br.x_EqB ?_ | refine Br.x_iN ?_ | refine Br.x_int1 ?_ | refine Br.x_min2 ?_ | refine Br.x_max2 ?_ | refine Br.x_nN ?_ | refine Br.x_ifE ?_
  | refine Br.x_test (b := ()) ?_ | refine Br.x_tB ?_ | refine Br.x_bl ?_ | refine Br.x_and ?_ | refine Br.x_or ?_ | refine Br.x_not ?_ | refine Br.x_andV ?_ | refine Br.x_orV ?_ | refine Br.x_notV ?_ | refine Br.x_blP ?_
  | refine Br.x_nil ?_ | refine Br.x_cons ?_ | refine Br.x_call ?_ | refine Br.x_CB ?_ | refine Br.x_BM ?_ | refine Br.x_tup ?_ | refine Br.x_lst ?_ | refine Br.x_chain ?_ | refine Br.x_par ?_ | refine Br.x_gSub ?_ | refine Br.x_gName ?_ | refine Br.x_fld ?_ | refine Br.x_fldS ?_ | refine Br.x_match ?_ | refine Br.x_else ?_ | refine Br.x_noCase ?_))
local macro_rules | `(tactic| walk_at "xv") => `(tactic| ((with_reducible refine' Br.x_var ?hvar ?_); (case hvar => rfl)))
local macro_rules | `(tactic| walk_at "xd") => `(tactic| (dsimp only [List.set_cons_zero, List.set_cons_succ, List.cons_append, List.nil_append, List.append_nil]))
local macro_rules | `(tactic| walk_at "xi") => `(tactic| ((with_reducible refine Br.x_I ?hside ?_); (case hside => first | exact Br.mul_r (by decide) (by decide) | exact Br.mul_l (by decide) (by decide) | exact Br.mul_l (by omega) (by omega) | exact Br.mul_r (by omega) (by omega) | (show (0 : Int) < _; first | decide | omega) | exact ⟨by decide, by decide⟩ | exact ⟨by omega, by omega⟩ | exact ⟨by decide, by decide, by decide⟩)))
local macro_rules | `(tactic| walk_at "x") => `(tactic| (repeat (first | walk_at "x1" | walk_at "xv" | walk_at "xi" | walk_at "xd")))
local macro_rules | `(tactic| walk_at "start") => `(tactic| (simp only [L2.start, List.map_cons, List.map_nil, List.length_cons, List.length_nil, Nat.reduceAdd, Nat.reduceSub, List.replicate, List.cons_append, List.nil_append, List.append_nil]))
local macro_rules | `(tactic| walk_at "isi") => `(tactic| first
  | refine Br.x_isi (b := true) (.base (.int _)) (by decide +kernel) ?_ | refine Br.x_isi (b := false) (.base (.int _)) (by decide +kernel) ?_
  | refine Br.x_isi (b := true) (.base (.bl _)) (by decide +kernel) ?_ | refine Br.x_isi (b := false) (.base (.bl _)) (by decide +kernel) ?_
  | refine Br.x_isi (b := false) (.base .non) (by decide +kernel) ?_
  | refine Br.x_isi (b := true) (.base (.str _)) (by decide +kernel) ?_ | refine Br.x_isi (b := false) (.base (.str _)) (by decide +kernel) ?_
  | refine Br.x_isi (b := true) (.base (.tup (by assumption))) (by decide +kernel) ?_ | refine Br.x_isi (b := false) (.base (.tup (by assumption))) (by decide +kernel) ?_
  | refine Br.x_isi (b := true) (.base (.lst (by assumption))) (by decide +kernel) ?_ | refine Br.x_isi (b := false) (.base (.lst (by assumption))) (by decide +kernel) ?_)
local macro_rules | `(tactic| walk_at "f") => `(tactic| (refine L2.iteF ?_; walk_at "x"))
local macro_rules | `(tactic| walk_at "t") => `(tactic| (refine L2.iteT ?_; walk_at "x"))
local macro_rules | `(tactic| walk_at "is") => `(tactic| (walk_at "isi"; walk_at "x"))
local macro_rules | `(tactic| walk_at "xb") => `(tactic| (simp only [Br.bindS, List.set_cons_zero, List.set_cons_succ]; walk_at "x"))

section
variable {P : Program} {w : World} {K : PySem.W.Frag} {mg : Str → Option Value} {base : Heap}

open Br.F

/-- the bottoms of the shares -/
def sp_products_of_differences (K : PySem.W.Frag) : Sp := fun vs H Q _ => ∃ n p : Nat, vs = [.int (n : Int), .int (p : Int)] ∧ 1 ≤ n ∧ n ≤ 1000 ∧ 2 ≤ p ∧ p ≤ 1000000000 ∧
  ∀ (a : Addr) (bs : List Int) (H' : Hp), H a = none → Same H H' → H' a = some (.lst (bs.map V.int)) → bs.length = n → (∀ (i : Nat) b, bs[i]? = some b → (p : Int) ∣ b - Ab (i : Int) i n) → Q (.ref a) H'
theorem fct_one : fct 1 = 1 := rfl
theorem getLast_at {fs : List Int} {j : Nat} (h : fs.length = j + 1) : ∃ z, fs[j]? = some z ∧ fs = fs.dropLast ++ [z] := by
  have hne : fs ≠ [] := fun e => by rw [e] at h; cases h
  refine ⟨fs.getLast hne, ?_, (List.dropLast_concat_getLast hne).symm⟩
  rw [List.getLast_eq_getElem, List.getElem?_eq_getElem (by omega)]
  congr 1
  have e : fs.length - 1 = j := by omega
  simp only [e]
theorem ok_products_of_differences (T : Txt K mg) : FnOk P w K mg base CX0 1 T.a_products_of_differences T.fd_products_of_differences ["size", "prime"] (sp_products_of_differences K) := by
  refine T.F_products_of_differences.ok sc_products_of_differences (fun vs H Q E h => ?_) (fun cdv A outer s H vs Q E hr h => ?_)
  · obtain ⟨n, p, rfl, _⟩ := h
    rfl
  · obtain ⟨n, p, rfl, hn1, hn2, hp1, hp2, q⟩ := h
    refine ⟨_, (pss_cons (ps_set (i := 2) sc_products_of_differences.nd rfl (.inl rfl) (pe_lst (pa_cons pe_int pa_nil)))
      (pss_cons (ps_for PassesOwn.never rfl (pi_range2 (by rfl) T.m_range (pa_cons pe_int (pa_cons (pv 0) pa_nil))) (pg_name (i := 3) sc_products_of_differences.nd rfl (Or.inl rfl))
      (pss_one (ps_expr (pe_bm PySem.F.plainAttrs_list PySem.F.slot_list_append PySem.F.type_list_append mt_append (pv 2) (pa_cons (pe_op op_mod (pe_op op_mul (pe_ix (r := rIxL K) ix_list (pv 2) (pe_un un_neg pe_int) (fun _ _ => rfl)) (pv 3)) (pv 1)) pa_nil)))))
      (pss_cons (ps_set (i := 4) sc_products_of_differences.nd rfl (.inl rfl) (pe_lst pa_nil))
      (pss_cons (ps_for PassesOwn.never rfl (pi_range1 (by rfl) T.m_range (pa_cons (pv 0) pa_nil)) (pg_name (i := 5) sc_products_of_differences.nd rfl (Or.inl rfl))
      (pss_cons (ps_set (i := 6) sc_products_of_differences.nd rfl (.inl rfl) (pe_op op_sub (pe_op op_sub (pv 0) pe_int) (pv 5)))
      (Evl.pss_cut (ps_set (i := 7) sc_products_of_differences.nd rfl (.inl rfl) (pe_ifExp (pt_cmpR op_eq (pe_op op_mod (pv 6) pe_int) pe_int (nomark _)) pe_int (pe_un un_neg pe_int)))
      (pss_one (ps_expr (pe_bm PySem.F.plainAttrs_list PySem.F.slot_list_append PySem.F.type_list_append mt_append (pv 4) (pa_cons (pe_op op_mul (pe_op op_mul (pv 7) (pe_ix (r := rIxL K) ix_list (pv 2) (pv 5) (fun _ _ => rfl))) (pe_ix (r := rIxL K) ix_list (pv 2) (pv 6) (fun _ _ => rfl))) pa_nil)))))))
      (pss_one (ps_ret (pv 4))))))), ?_⟩
    walk_at "start"
    walk_at "x"
    refine ⟨by show 1 ≤ sizeLine; decide, fun a ha => ?_⟩
    walk_at "x"
    -- the factorials
    refine x_forR2 1 (n : Int) (fun i σ' H' => ∃ v3, σ' = [some (.int (n : Int)), some (.int (p : Int)), some (.ref a), v3, none, none, none, none] ∧ Same H H' ∧ ∃ fs : List Int, H' a = some (.lst (fs.map V.int)) ∧ fs.length = i + 1 ∧ ∀ (j : Nat) z, fs[j]? = some z → 0 ≤ z ∧ z < p ∧ (p : Int) ∣ z - fct j)
      (fun R r => r) (fun R r => ⟨_, rfl, r⟩) (by decide) (by decide) (by omega) (by omega) ?_ ?_ ?_
    · refine ⟨none, rfl, same_upd ha, [1], upd_same, rfl, fun j z hz => ?_⟩
      match j, hz with
      | 0, hz =>
        have e : z = 1 := (Option.some.inj hz).symm
        rw [e]
        exact ⟨by decide, by omega, 0, rfl⟩
      | j + 1, hz => simp at hz
    · rintro i σ' H' hi ⟨v3, rfl, hs, fs, hf, hl, hz⟩
      obtain ⟨z, gz, ez⟩ := getLast_at hl
      obtain ⟨z0, z1, zd⟩ := hz i z gz
      walk_at "x"
      refine x_tyL hf ?_
      walk_at "x"
      refine x_ixL (v := .int z) (sq_of hf) (by rw [ez, List.map_append]; exact atI_last _ _) ?_
      walk_at "x"
      refine x_app hf (by rw [List.length_map]; omega) ?_
      walk_at "x"
      refine ⟨_, rfl, sput hs ha, fs ++ [z * (1 + (i : Int)) % (p : Int)], by rw [upd_same, List.map_append]; rfl, by rw [List.length_append, hl]; rfl, fun j y hy => ?_⟩
      by_cases hj : j < fs.length
      · rw [List.getElem?_append_left hj] at hy
        exact hz j y hy
      · rw [List.getElem?_append_right (by omega)] at hy
        have ej : j = i + 1 := by
          have := (List.getElem?_eq_some_iff.mp hy).1
          simp at this
          omega
        subst ej
        rw [hl, Nat.sub_self] at hy
        have e : y = z * (1 + (i : Int)) % (p : Int) := (Option.some.inj hy).symm
        rw [e]
        refine ⟨Int.emod_nonneg _ (by omega), Int.emod_lt_of_pos _ (by omega), ?_⟩
        obtain ⟨u, hu⟩ := zd
        have h4 := Int.mul_ediv_add_emod (z * (1 + (i : Int))) p
        refine ⟨u * ((i : Int) + 1) - z * (1 + (i : Int)) / (p : Int), ?_⟩
        show _ - fct i * ((i : Int) + 1) = _
        have ez : z = fct i + p * u := by omega
        grind
    rintro σ' H1 ⟨v3, rfl, hs, fs, hf, hl, hz⟩
    have hl : fs.length = n := by omega
    walk_at "x"
    refine ⟨Nat.zero_le _, fun b hb => ?_⟩
    have hba : a ≠ b := ne_of_none hf hb
    walk_at "x"
    refine x_forR1 (n : Int) (fun i σ' H' => ∃ v5 v6 v7, σ' = [some (.int (n : Int)), some (.int (p : Int)), some (.ref a), v3, some (.ref b), v5, v6, v7] ∧ Same H1 H' ∧ ∃ bs : List Int, H' b = some (.lst (bs.map V.int)) ∧ bs.length = i ∧ ∀ (j : Nat) z, bs[j]? = some z → (p : Int) ∣ z - Ab (j : Int) j n)
      (fun R r => ⟨_, rfl, r⟩) (by omega) (by omega) ⟨none, none, none, rfl, same_upd hb, [], upd_same, rfl, fun j z h => by simp at h⟩ ?_ ?_
    · rintro i σ' H' hi ⟨v5, v6, v7, rfl, hs', bs, hB, hbl, hbz⟩
      have hi : i < n := by omega
      have hf' : H' a = some (.lst (fs.map V.int)) := hs' _ _ hf
      obtain ⟨x, gx⟩ : ∃ x, fs[i]? = some x := ⟨_, List.getElem?_eq_getElem (by omega)⟩
      obtain ⟨y, gy⟩ : ∃ y, fs[n - 1 - i]? = some y := ⟨_, List.getElem?_eq_getElem (by omega)⟩
      obtain ⟨x0, x1, xd⟩ := hz i x gx
      obtain ⟨y0, y1, yd⟩ := hz _ y gy
      have key : (p : Int) ∣ sg (n - 1 - i) * x * y - Ab (i : Int) i n := by
        have e : n = i + 1 + (n - 1 - i) := by omega
        have e2 : Ab (i : Int) i n = fct i * (sg (n - 1 - i) * fct (n - 1 - i)) := by
          have := Ab_hi (at_ := i) (n - 1 - i)
          rw [← e] at this
          exact this
        rw [e2]
        obtain ⟨u, hu⟩ := xd
        obtain ⟨v, hv⟩ := yd
        have e3 : x = fct i + p * u := by omega
        have e4 : y = fct (n - 1 - i) + p * v := by omega
        rw [e3, e4]
        refine ⟨sg (n - 1 - i) * (u * (fct (n - 1 - i) + p * v) + fct i * v), ?_⟩
        grind
      have hsg : sg (n - 1 - i) = 1 ∨ sg (n - 1 - i) = -1 := by unfold sg; split <;> simp
      have ea : ((n : Int) - 1 - (i : Int)) = ((n - 1 - i : Nat) : Int) := by omega
      walk_at "x"
      rw [ea]
      refine x_cut (fun σ2 H2 => H2 = H' ∧ ∃ s : Int, σ2 = [some (.int (n : Int)), some (.int (p : Int)), some (.ref a), v3, some (.ref b), some (.int (i : Int)), some (.int ((n - 1 - i : Nat) : Int)), some (.int s)] ∧ s = sg (n - 1 - i)) ?_ ?_
      · walk_at "x"
        refine x_ite (fun hc => ?_) (fun hc => ?_)
        · walk_at "x"
          exact ⟨rfl, _, rfl, by unfold sg; rw [if_pos (by omega)]⟩
        · walk_at "x"
          exact ⟨rfl, _, rfl, by unfold sg; rw [if_neg (by omega)]⟩
      · rintro σ2 H2 ⟨rfl, s, rfl, es⟩
        have s1 : s = 1 ∨ s = -1 := by rw [es]; exact hsg
        walk_at "x"
        refine x_tyL hB ?_
        walk_at "x"
        refine x_ixL (v := .int x) (sq_of hf') (atI_nat (by rw [List.getElem?_map, gx]; rfl)) ?_
        walk_at "x"
        refine x_ixL (v := .int y) (sq_of hf') (atI_nat (by rw [List.getElem?_map, gy]; rfl)) ?_
        walk_at "x"
        refine x_app hB (by rw [List.length_map]; omega) ?_
        walk_at "x"
        refine ⟨_, _, _, rfl, sput hs' hb, bs ++ [s * x * y], by rw [upd_same, List.map_append]; rfl, by rw [List.length_append, hbl]; rfl, fun j w hw => ?_⟩
        by_cases hj : j < bs.length
        · rw [List.getElem?_append_left hj] at hw
          exact hbz j w hw
        · rw [List.getElem?_append_right (by omega)] at hw
          have ej : j = i := by
            have := (List.getElem?_eq_some_iff.mp hw).1
            simp at this
            omega
          subst ej
          rw [hbl, Nat.sub_self] at hw
          have e : w = s * x * y := (Option.some.inj hw).symm
          rw [e, es]
          exact key
    · rintro σ' H' ⟨v5, v6, v7, rfl, hs', bs, hB, hbl, hbz⟩
      walk_at "x"
      exact q b bs H' (sfree hs hb) (hs.trans hs') hB (by omega) hbz



def sp_shares (K : PySem.W.Frag) : Sp := fun vs H Q _ => ∃ (n p : Nat) (x : Int), vs = [.int (n : Int), .int (p : Int), .int x] ∧ 1 ≤ n ∧ n ≤ 1000 ∧ IsPrime p ∧ n ≤ p ∧ p ≤ 1000000000 ∧ 0 ≤ x ∧ x < p ∧
  ∀ (a : Addr) (rs : List Int) (H' : Hp), H a = none → Same H H' → H' a = some (.lst (rs.map V.int)) → rs.length = n → (∀ (i : Nat) r, rs[i]? = some r → Bas p n i x r) → Q (.ref a) H'
theorem ok_shares (T : Txt K mg) : FnOk P w K mg base CX0 2 T.a_shares T.fd_shares ["size", "prime", "x"] (sp_shares K) := by
  refine T.F_shares.ok sc_shares (fun vs H Q E h => ?_) (fun cdv A outer s H vs Q E hr h => ?_)
  · obtain ⟨n, p, x, rfl, _⟩ := h
    rfl
  · obtain ⟨n, p, x, rfl, hn1, hn2, hp, hnp, hp9, hx0, hx1, q⟩ := h
    have hp2 := hp.1
    refine ⟨_, (pss_cons (ps_if (pt_cmpR op_lt (pv 2) (pv 0) (nomark _))
      (pss_one (ps_ret (pe_lc (own := [("at", 3)]) (g := gName 3) (tt := tYes) rfl sc_shares.nd (pi_range1 (by rfl) T.m_range (pa_cons (pv 0) pa_nil)) (blkOk_by (N := N_shares) (sc := defScope s_shares) (by decide +kernel)) (fun _ _ _ _ _ => (pg_name (i := 3) sc_shares.nd rfl (Or.inl rfl))) (fun _ _ _ _ _ => pts_nil) (fun _ _ _ _ _ => (pe_ifExp (pt_cmpR op_eq (pv 3) (pv 2) (nomark _)) pe_int pe_int)))))
      pss_nil)
      (pss_cons (ps_set (i := 4) sc_shares.nd rfl (.inl rfl) pe_int)
      (pss_cons (ps_for PassesOwn.never rfl (pi_range1 (by rfl) T.m_range (pa_cons (pv 0) pa_nil)) (pg_name (i := 3) sc_shares.nd rfl (Or.inl rfl))
      (pss_one (ps_set (i := 4) sc_shares.nd rfl (.inl rfl) (pe_op op_mod (pe_op op_mul (pv 4) (pe_op op_sub (pv 2) (pv 3))) (pv 1)))))
      (pss_cons (ps_set (i := 5) sc_shares.nd rfl (.inl rfl) (pe_lst pa_nil))
      (pss_cons (ps_for PassesOwn.never rfl (pi_enum (by rfl) T.m_enumerate (pa_cons (pe_call (ok_products_of_differences T) hr (by rfl) T.g_products_of_differences T.F_products_of_differences.kp T.b_products_of_differences .nil pass0 (pa_cons (pv 0) (pa_cons (pv 1) pa_nil))) pa_nil)) (pg_tup rfl (pgs_cons (pg_name (i := 3) sc_shares.nd rfl (Or.inl rfl)) (pgs_cons (pg_name (i := 6) sc_shares.nd rfl (Or.inl rfl)) pgs_nil)))
      (pss_one (ps_expr (pe_bm PySem.F.plainAttrs_list PySem.F.slot_list_append PySem.F.type_list_append mt_append (pv 5) (pa_cons (pe_op op_mod (pe_op op_mul (pv 4) (pe_call (ok_inverse_of T) hr (by rfl) T.g_inverse_of T.F_inverse_of.kp T.b_inverse_of .nil pass0 (pa_cons (pe_op op_mul (pe_op op_sub (pv 2) (pv 3)) (pv 6)) (pa_cons (pv 1) pa_nil)))) (pv 1)) pa_nil)))))
      (pss_one (ps_ret (pv 5)))))))), ?_⟩
    walk_at "start"
    walk_at "x"
    refine x_ite (fun hc => ?_) (fun hc => ?_)
    · walk_at "x"
      obtain ⟨xn, rfl⟩ : ∃ xn : Nat, x = (xn : Int) := ⟨x.toNat, by omega⟩
      refine x_lcR1 (n : Int) (fun a i H' => Same H H' ∧ ∃ rs : List Int, H' a = some (.lst (rs.map V.int)) ∧ rs.length = i ∧ ∀ (j : Nat) r, rs[j]? = some r → Bas p n j (xn : Int) r) (fun R r => ⟨_, rfl, r⟩) (by omega) (by omega) (fun a ha => ⟨same_upd ha, [], upd_same, rfl, fun j r h => by simp at h⟩) (fun x => rfl) ?_ ?_
      · rintro a i H' ha hi ⟨hs, rs, hr, hl, hb⟩
        walk_at "x"
        have hB := Bas.ind (p := p) (n := n) (at_ := i) (x := xn) hp (by omega)
        refine x_ite (fun he => ?_) (fun he => ?_)
        · rw [if_pos (by omega)] at hB
          walk_at "x"
          refine ⟨_, hr, Nat.lt_of_lt_of_le (show _ < 100000 by rw [List.length_map]; omega) (by decide), sput hs ha, rs ++ [1], map_app, by rw [List.length_append, hl]; rfl, fun j r h => ?_⟩
          rcases snoc_at hl h with ⟨_, h⟩ | ⟨rfl, rfl⟩
          · exact hb j r h
          · exact hB
        · rw [if_neg (by omega)] at hB
          walk_at "x"
          refine ⟨_, hr, Nat.lt_of_lt_of_le (show _ < 100000 by rw [List.length_map]; omega) (by decide), sput hs ha, rs ++ [0], map_app, by rw [List.length_append, hl]; rfl, fun j r h => ?_⟩
          rcases snoc_at hl h with ⟨_, h⟩ | ⟨rfl, rfl⟩
          · exact hb j r h
          · exact hB
      · rintro a H' ha ⟨hs, rs, hr, hl, hb⟩
        exact q a rs H' ha hs hr (by omega) hb
    · walk_at "x"
      refine x_forR1 (n : Int) (fun i σ' H' => H = H' ∧ ∃ v3 t, σ' = [some (.int (n : Int)), some (.int (p : Int)), some (.int x), v3, some (.int t), none, none] ∧ 0 ≤ t ∧ t < p ∧ (p : Int) ∣ t - Tp x i) (fun R r => ⟨_, rfl, r⟩) (by omega) (by omega) ⟨rfl, none, 1, rfl, by decide, by omega, 0, rfl⟩ ?_ ?_
      · rintro i σ' H' hi ⟨rfl, v3, t, rfl, t0, t1, u, hu⟩
        walk_at "x"
        refine ⟨rfl, _, _, rfl, Int.emod_nonneg _ (by omega), Int.emod_lt_of_pos _ (by omega), ?_⟩
        have h4 := Int.mul_ediv_add_emod (t * (x - (i : Int))) p
        refine ⟨u * (x - (i : Int)) - t * (x - (i : Int)) / (p : Int), ?_⟩
        show _ - Tp x i * (x - (i : Int)) = _
        have et : t = Tp x i + p * u := by omega
        grind
      rintro σ' H' ⟨rfl, v3, t, rfl, t0, t1, ht⟩
      walk_at "x"
      refine ⟨Nat.zero_le _, fun a ha => ?_⟩
      walk_at "x"
      refine x_for ?_
      unfold iEnum
      walk_at "x"
      refine ⟨n, p, rfl, hn1, hn2, hp2, hp9, fun b bs H2 hb hs2 hB hbl hbz => ?_⟩
      walk_at "x"
      have hab : a ≠ b := ne_of_none upd_same hb
      have hs0 : Same H H2 := (same_upd ha).trans hs2
      refine ⟨b, bs.map V.int, rfl, sq_of hB, for_it (D := ⟨_, Q, fun _ _ => False, fun _ _ => False⟩) (walk_enum (K := K) (xs := bs.map V.int)) (fun i σ' H' => ∃ v3 v6, σ' = [some (.int (n : Int)), some (.int (p : Int)), some (.int x), v3, some (.int t), some (.ref a), v6] ∧ Same H H' ∧ H' b = some (.lst (bs.map V.int)) ∧ ∃ rs : List Int, H' a = some (.lst (rs.map V.int)) ∧ rs.length = i ∧ ∀ (j : Nat) r, rs[j]? = some r → Bas p n j x r) ⟨_, _, rfl, hs0, hB, [], hs2 _ _ upd_same, rfl, fun j r h => by simp at h⟩ (fun i σ' H' _ z => by
        obtain ⟨_, _, _, _, e, _⟩ := z
        exact sq_of e) ?_ ?_⟩
      · rintro i _ σ' H' H3 hi ⟨v3, v6, rfl, hs, hB, rs, hr, hrl, hrz⟩ ⟨c, u, v, rfl, hc, rfl, gu, gv⟩
        cases gu
        obtain ⟨y, gy, rfl⟩ := map_get gv
        have hi : i < n := by rw [List.length_map] at hi; omega
        refine x_gTup2 (st_of upd_same) ?_
        have hca : a ≠ c := ne_of_none hr hc
        have hcb : b ≠ c := ne_of_none hB hc
        have hr' : (upd H' c (.tup [.int (i : Int), .int y])) a = some (.lst (rs.map V.int)) := by rw [upd_ne hca]; exact hr
        have hB' : (upd H' c (.tup [.int (i : Int), .int y])) b = some (.lst (bs.map V.int)) := by rw [upd_ne hcb]; exact hB
        have hs' := sput (o := .tup [.int (i : Int), .int y]) hs (sfree hs hc)
        walk_at "x"
        refine x_tyL hr' ?_
        walk_at "x"
        refine ⟨(x - (i : Int)) * y, (p : Int), rfl, by omega, by omega, fun v H4 hv hs4 => ?_⟩
        have hy := hbz i y gy
        have hcop : Int.gcd ((x - (i : Int)) * y) (p : Int) = 1 := by
          have hnd : ¬ (p : Int) ∣ (x - (i : Int)) * y := fun hd => by
            rcases hp.mulI hd with h1 | h1
            · have := small_dvd h1 (by omega) (by omega)
              omega
            · exact Ab_own hp hi hnp (by
                have e : Ab (i : Int) i n = y - (y - Ab (i : Int) i n) := by omega
                rw [e]
                exact Int.dvd_sub h1 hy)
          have h1 : ¬ p ∣ ((x - (i : Int)) * y).natAbs := fun h => hnd (Int.ofNat_dvd_left.mpr h)
          have h2 := hp.coprime h1
          show Nat.gcd ((x - (i : Int)) * y).natAbs ((p : Int)).natAbs = 1
          rw [Int.natAbs_natCast, Nat.gcd_comm]
          exact h2
        obtain ⟨z, rfl, z0, z1, hz⟩ := hv.2 hcop
        walk_at "x"
        refine x_app (hs4 _ _ hr') (by rw [List.length_map]; omega) ?_
        walk_at "x"
        refine ⟨_, _, rfl, sput (hs'.trans hs4) ha, by rw [upd_ne hab.symm]; exact hs4 _ _ hB', rs ++ [t * z % (p : Int)], map_app, by rw [List.length_append, hrl]; rfl, fun j r h => ?_⟩
        rcases snoc_at hrl h with ⟨_, h⟩ | ⟨rfl, rfl⟩
        · exact hrz j r h
        · exact Bas.inv hi hp2 ht hy hz
      · rintro σ' H' ⟨v3, v6, rfl, hs, hB, rs, hr, hrl, hrz⟩
        exact ⟨_, rfl, q a rs H' ha hs hr (by rw [List.length_map] at hrl; omega) hrz⟩


/-! ### tables -/

def sp_weighted (K : PySem.W.Frag) : Sp := fun vs H Q _ => ∃ (a b : Addr) (r c : List Int), vs = [.ref a, .ref b] ∧ SqT K H a (r.map V.int) ∧ SqL K H b (c.map V.int) ∧ r.length = c.length ∧ r.length ≤ 1000 ∧ Rg 0 1000000000 r ∧
  ∀ H', Same H H' → Q (.int (S1 (fun j => c.getD j 0 * r.getD j 0) r.length)) H'
theorem ok_weighted (T : Txt K mg) : FnOk P w K mg base CX0 1 T.a_weighted T.fd_weighted ["row", "shares"] (sp_weighted K) := by
  refine T.F_weighted.ok sc_weighted (fun vs H Q E h => ?_) (fun cdv A outer s H vs Q E hr h => ?_)
  · obtain ⟨a, b, r, c, rfl, _⟩ := h
    rfl
  · obtain ⟨a, b, r, c, rfl, hr, hc, hl, hl2, hR, q⟩ := h
    refine ⟨_, (pss_one (ps_ret (pe_callB (id := "sum") (r := rSum K) (cr_sum rfl) (by rfl) T.m_sum (by decide +kernel) (pa_cons (pe_lc (own := [("share", 2), ("value", 3)]) (g := gTup K 2 (gCons (gName 2) (gCons (gName 3) gNil))) (tt := tYes) rfl sc_weighted.nd (pi_zipM (by rfl) T.m_zip (pa_cons (pv 1) (pa_cons (pv 0) pa_nil))) (blkOk_by (N := N_weighted) (sc := defScope s_weighted) (by decide +kernel)) (fun _ _ _ _ _ => (pg_tup rfl (pgs_cons (pg_name (i := 2) sc_weighted.nd rfl (Or.inl rfl)) (pgs_cons (pg_name (i := 3) sc_weighted.nd rfl (Or.inl rfl)) pgs_nil)))) (fun _ _ _ _ _ => pts_nil) (fun _ _ _ _ _ => (pe_op op_mul (pv 2) (pv 3)))) pa_nil)))), ?_⟩
    walk_at "start"
    walk_at "x"
    refine x_lcI (J := ItzM K b a) (n := r.length) (fun R k => by unfold iZipM; walk_at "x"; exact ⟨b, a, _, _, rfl, hc, hr, k⟩) (walk_mix (by rw [List.length_map, hl]) (by rw [List.length_map])) (fun o i H' => Same H H' ∧ ∃ w : List Int, H' o = some (.lst (w.map V.int)) ∧ w.sum = S1 (fun j => c.getD j 0 * r.getD j 0) i ∧ w.length = i) (fun o ho => ⟨same_upd ho, [], upd_same, rfl, rfl⟩) (fun o i H' _ _ z => ⟨z.1.seq hc, seqT z.1 hr⟩) ?_ ?_ ?_
    · rintro o i _ H' H2 hi ho ⟨hs, w, hw, hws, hwl⟩ ⟨p, u, v, rfl, hp, rfl, gu, gv⟩
      obtain ⟨y, gy, rfl⟩ := map_get gu
      obtain ⟨z, gz, rfl⟩ := map_get gv
      have bz := hR.get gz
      refine x_gTup2 (st_of upd_same) ⟨rfl, ?_⟩
      have hpo : o ≠ p := ne_of_none hw hp
      walk_at "x"
      refine ⟨_, by rw [upd_ne hpo]; exact hw, Nat.lt_of_lt_of_le (show _ < 100000 by rw [List.length_map]; omega) (by decide), sput (sput hs (sfree hs hp)) ho, w ++ [y * z], map_app, ?_, by rw [List.length_append, hwl]; rfl⟩
      rw [List.sum_append, hws]
      show _ = S1 _ i + c.getD i 0 * r.getD i 0
      rw [getD_of gy, getD_of gz]
      simp
    · intro x σ' H' R R' hRR hg
      obtain ⟨p, xs, e, h1, h2, v, r', e2, w, r2, e3, e4, h3⟩ := hg
      exact ⟨p, xs, e, h1, h2, v, r', e2, w, r2, e3, e4, hRR _ _ h3⟩
    · rintro o H' ho ⟨hs, w, hw, hws, hwl⟩
      walk_at "x"
      refine ⟨o, w, rfl, sq_of hw, ?_⟩
      rw [hws]
      exact q H' hs


def sp_interpolate (K : PySem.W.Frag) : Sp := fun vs H Q _ => ∃ (a : Addr) (p : Nat) (x y : Int) (t : List (List Int)), vs = [.ref a, .int (p : Int), .int x, .int y] ∧ TabAt K H a t ∧ IsTab p t ∧ t.length ≤ 1000 ∧ IsPrime p ∧ p ≤ 1000000000 ∧ 0 ≤ x ∧ x < p ∧ 0 ≤ y ∧ y < p ∧
  ∀ (v : Int) (H' : Hp), Itp p t x y v → 0 ≤ v → v < p → Same H H' → Q (.int v) H'
theorem Itp.of {p : Nat} {t : List (List Int)} {x y : Int} {rs cs : List Int} (hr : rs.length = t.length) (hc : cs.length = t.length) (h1 : ∀ (i : Nat) r, rs[i]? = some r → Bas p t.length i x r) (h2 : ∀ (i : Nat) r, cs[i]? = some r → Bas p t.length i y r) :
    Itp p t x y (S1 (fun i => rs.getD i 0 * S1 (fun j => cs.getD j 0 * (t.getD i []).getD j 0) t.length) t.length % p) :=
  ⟨fun i => rs.getD i 0, fun j => cs.getD j 0, fun i hi => h1 i _ (get_getD (by omega)), fun j hj => h2 j _ (get_getD (by omega)), rfl⟩
theorem ok_interpolate (T : Txt K mg) : FnOk P w K mg base CX0 3 T.a_interpolate T.fd_interpolate ["table", "prime", "x", "y"] (sp_interpolate K) := by
  refine T.F_interpolate.ok sc_interpolate (fun vs H Q E h => ?_) (fun cdv A outer s H vs Q E hr h => ?_)
  · obtain ⟨a, p, x, y, t, rfl, _⟩ := h
    rfl
  · obtain ⟨a, p, x, y, t, rfl, hT, hI, htl, hp, hp9, hx0, hx1, hy0, hy1, q⟩ := h
    have hp2 := hp.1
    obtain ⟨as, hA, hal, hrow⟩ := id hT
    refine ⟨_, (pss_cons (ps_set (i := 4) sc_interpolate.nd rfl (.inl rfl) (pe_call (ok_shares T) hr (by rfl) T.g_shares T.F_shares.kp T.b_shares .nil pass0 (pa_cons (pe_callB (id := "len") (r := rLen K) cr_len (by rfl) T.m_len PySem.boot_len (pa_cons (pv 0) pa_nil)) (pa_cons (pv 1) (pa_cons (pe_op op_mod (pv 2) (pv 1)) pa_nil)))))
      (pss_cons (ps_set (i := 5) sc_interpolate.nd rfl (.inl rfl) (pe_call (ok_shares T) hr (by rfl) T.g_shares T.F_shares.kp T.b_shares .nil pass0 (pa_cons (pe_callB (id := "len") (r := rLen K) cr_len (by rfl) T.m_len PySem.boot_len (pa_cons (pv 0) pa_nil)) (pa_cons (pv 1) (pa_cons (pe_op op_mod (pv 3) (pv 1)) pa_nil)))))
      (pss_cons (ps_set (i := 6) sc_interpolate.nd rfl (.inl rfl) pe_int)
      (pss_cons (ps_for PassesOwn.never rfl (pi_zipM (by rfl) T.m_zip (pa_cons (pv 4) (pa_cons (pv 0) pa_nil))) (pg_tup rfl (pgs_cons (pg_name (i := 7) sc_interpolate.nd rfl (Or.inl rfl)) (pgs_cons (pg_name (i := 8) sc_interpolate.nd rfl (Or.inl rfl)) pgs_nil)))
      (pss_one (ps_if (pt_cmpR op_ne (pv 7) pe_int (nomark _))
      (pss_one (ps_set (i := 6) sc_interpolate.nd rfl (.inl rfl) (pe_op op_add (pv 6) (pe_op op_mul (pv 7) (pe_call (ok_weighted T) (hr.mono (by decide)) (by rfl) T.g_weighted T.F_weighted.kp T.b_weighted .nil pass0 (pa_cons (pv 8) (pa_cons (pv 5) pa_nil)))))))
      pss_nil)))
      (pss_one (ps_ret (pe_op op_mod (pv 6) (pv 1)))))))), ?_⟩
    walk_at "start"
    walk_at "x"
    refine x_lenT hA ?_
    walk_at "x"
    rw [Int.emod_eq_of_lt hx0 hx1, List.length_map, hal]
    refine ⟨t.length, p, x, rfl, hI.pos, htl, hp, hI.le, hp9, hx0, hx1, fun ra rs H1 hra hs1 hrs hrl hrz => ?_⟩
    walk_at "x"
    refine x_lenT (seqT hs1 hA) ?_
    walk_at "x"
    rw [Int.emod_eq_of_lt hy0 hy1, List.length_map, hal]
    refine ⟨t.length, p, y, rfl, hI.pos, htl, hp, hI.le, hp9, hy0, hy1, fun ca cs H2 hca hs2 hcs hcl hcz => ?_⟩
    walk_at "x"
    have hs02 : Same H H2 := hs1.trans hs2
    refine x_forI (J := ItzM K ra a) (n := t.length) (fun R k => by unfold iZipM; walk_at "x"; exact ⟨ra, a, _, _, rfl, sq_of (hs2 _ _ hrs), seqT hs02 hA, k⟩) (walk_mix (xs := rs.map V.int) (ys := as.map V.ref) (by rw [List.length_map, hrl]) (by rw [List.length_map, hal]))
      (fun i σ' H' => ∃ v7 v8, σ' = [some (.ref a), some (.int (p : Int)), some (.int x), some (.int y), some (.ref ra), some (.ref ca), some (.int (S1 (fun i => rs.getD i 0 * S1 (fun j => cs.getD j 0 * (t.getD i []).getD j 0) t.length) i)), v7, v8] ∧ Same H2 H') ⟨none, none, rfl, Same.refl _⟩
      (fun i σ' H' _ z => by
        obtain ⟨_, _, _, s⟩ := z
        exact ⟨sq_of (s _ _ (hs2 _ _ hrs)), seqT (hs02.trans s) hA⟩) ?_ ?_
    · rintro i _ σ' H' H3 hi ⟨v7, v8, rfl, s⟩ ⟨c, u, v, rfl, hc, rfl, gu, gv⟩
      obtain ⟨r, gr, rfl⟩ := map_get gu
      obtain ⟨b, gb, rfl⟩ := map_getR gv
      obtain ⟨row, grow⟩ : ∃ row, t[i]? = some row := ⟨_, List.getElem?_eq_getElem hi⟩
      obtain ⟨rwl, rwR⟩ := hI.rows i row grow
      have hB := hrz i r gr
      have s3 : Same H (upd H' c (.tup [.int r, .ref b])) := sput (hs02.trans s) (sfree (hs02.trans s) hc)
      have s23 : Same H2 (upd H' c (.tup [.int r, .ref b])) := sput s (sfree s hc)
      refine x_gTup2 (st_of upd_same) ?_
      have step : S1 (fun i => rs.getD i 0 * S1 (fun j => cs.getD j 0 * (t.getD i []).getD j 0) t.length) (i + 1) = S1 (fun i => rs.getD i 0 * S1 (fun j => cs.getD j 0 * (t.getD i []).getD j 0) t.length) i + r * S1 (fun j => cs.getD j 0 * row.getD j 0) row.length := by
        show S1 _ i + rs.getD i 0 * S1 (fun j => cs.getD j 0 * (t.getD i []).getD j 0) t.length = _
        rw [getD_of gr, rwl, List.getD_eq_getElem?_getD (l := t), grow]
        rfl
      walk_at "x"
      refine x_iteN (fun hz => ?_) (fun hz => ?_)
      · walk_at "x"
        refine ⟨b, ca, row, cs, rfl, seqT s3 (hrow i row b grow gb), sq_of (s23 _ _ hcs), by omega, by omega, fun z hz => ⟨(rwR z hz).1, by have := (rwR z hz).2; omega⟩, fun H4 hs4 => ?_⟩
        have hB0 := hB.1
        have hB1 := hB.2.1
        walk_at "x"
        rw [← step]
        exact ⟨_, _, rfl, s23.trans hs4⟩
      · walk_at "x"
        refine ⟨some (.int r), some (.ref b), ?_, s23⟩
        rw [step, hz, Int.zero_mul, Int.add_zero]
    · rintro σ' H' ⟨v7, v8, rfl, s⟩
      walk_at "x"
      exact q _ H' (Itp.of hrl hcl hrz hcz) (Int.emod_nonneg _ (by omega)) (Int.emod_lt_of_pos _ (by omega)) (hs02.trans s)





end
end Br
namespace Br
open PySem PySem.Spec PyProof.Rows L2
local macro_rules | `(tactic| walk_at "x1") => `(tactic| (with_reducible first
  | refine Br.x_seq ?_ | refine Br.x_set ?_ | refine Br.x_asg ?_ | refine Br.x_next ?_ | refine Br.x_ret ?_ | refine Br.x_retN ?_ | refine Br.x_drop ?_ | refine Br.x_if ?_ | refine Br.x_brk ?_ | refine Br.x_cont ?_
  | refine Br.x_c ?_ | refine Br.x_op ?_ | refine Br.x_un ?_ | refine Br.x_I0 ?_ | refine Br.x_U ?_ | refine Br.x_EqI ?_ | refine Br.x_NeI ?_ | refine Br.x_EqB ?_ | refine Br.x_iN ?_ | refine Br.x_int1 ?_ | refine Br.x_min2 ?_ | refine Br.x_max2 ?_ | refine Br.x_nN ?_ | refine Br.x_ifE ?_
  | refine Br.x_test (b := ()) ?_ | refine Br.x_tB ?_ | refine Br.x_bl ?_ | refine Br.x_and ?_ | refine Br.x_or ?_ | refine Br.x_not ?_ | refine Br.x_andV ?_ | refine Br.x_orV ?_ | refine Br.x_notV ?_ | refine Br.x_blP ?_
  | refine Br.x_nil ?_ | refine Br.x_cons ?_ | refine Br.x_call ?_ | refine Br.x_CB ?_ | refine Br.x_BM ?_ | refine Br.x_tup ?_ | refine Br.x_lst ?_ | refine Br.x_chain ?_ | refine Br.x_par ?_ | refine Br.x_gSub ?_ | refine Br.x_gName ?_ | refine Br.x_fld ?_ | refine Br.x_fldS ?_ | refine Br.x_match ?_ | refine Br.x_else ?_ | refine Br.x_noCase ?_))
local macro_rules | `(tactic| walk_at "xv") => `(tactic| ((with_reducible refine' Br.x_var ?hvar ?_); (case hvar => rfl)))
local macro_rules | `(tactic| walk_at "xd") => `(tactic| (dsimp only [List.set_cons_zero, List.set_cons_succ, List.cons_append, List.nil_append, List.append_nil]))
local macro_rules | `(tactic| walk_at "xi") => `(tactic| ((with_reducible refine Br.x_I ?hside ?_); (case hside => first | exact Br.mul_r (by decide) (by decide) | exact Br.mul_l (by decide) (by decide) | exact Br.mul_l (by omega) (by omega) | exact Br.mul_r (by omega) (by omega) | (show (0 : Int) < _; first | decide | omega) | exact ⟨by decide, by decide⟩ | exact ⟨by omega, by omega⟩ | exact ⟨by decide, by decide, by decide⟩)))
local macro_rules | `(tactic| walk_at "x") => `(tactic| (repeat (first | walk_at "x1" | walk_at "xv" | walk_at "xi" | walk_at "xd")))
local macro_rules | `(tactic| walk_at "start") => `(tactic| (simp only [L2.start, List.map_cons, List.map_nil, List.length_cons, List.length_nil, Nat.reduceAdd, Nat.reduceSub, List.replicate, List.cons_append, List.nil_append, List.append_nil]))
local macro_rules | `(tactic| walk_at "isi") => `(tactic| first
  | refine Br.x_isi (b := true) (.base (.int _)) (by decide +kernel) ?_ | refine Br.x_isi (b := false) (.base (.int _)) (by decide +kernel) ?_
  | refine Br.x_isi (b := true) (.base (.bl _)) (by decide +kernel) ?_ | refine Br.x_isi (b := false) (.base (.bl _)) (by decide +kernel) ?_
  | refine Br.x_isi (b := false) (.base .non) (by decide +kernel) ?_
  | refine Br.x_isi (b := true) (.base (.str _)) (by decide +kernel) ?_ | refine Br.x_isi (b := false) (.base (.str _)) (by decide +kernel) ?_
  | refine Br.x_isi (b := true) (.base (.tup (by assumption))) (by decide +kernel) ?_ | refine Br.x_isi (b := false) (.base (.tup (by assumption))) (by decide +kernel) ?_
  | refine Br.x_isi (b := true) (.base (.lst (by assumption))) (by decide +kernel) ?_ | refine Br.x_isi (b := false) (.base (.lst (by assumption))) (by decide +kernel) ?_)
local macro_rules | `(tactic| walk_at "f") => `(tactic| (refine L2.iteF ?_; walk_at "x"))
local macro_rules | `(tactic| walk_at "t") => `(tactic| (refine L2.iteT ?_; walk_at "x"))
local macro_rules | `(tactic| walk_at "is") => `(tactic| (walk_at "isi"; walk_at "x"))
local macro_rules | `(tactic| walk_at "xb") => `(tactic| (simp only [Br.bindS, List.set_cons_zero, List.set_cons_succ]; walk_at "x"))

section
variable {P : Program} {w : World} {K : PySem.W.Frag} {mg : Str → Option Value} {base : Heap}

/-! ### primes -/
def PrimeI (n : Int) : Prop := 2 ≤ n ∧ ∀ d : Int, 2 ≤ d → d * d ≤ n → n % d ≠ 0
theorem sq_lt {a b : Int} (ha : 0 ≤ a) (h : a < b) : a * a < b * b := by
  have h1 : a * a ≤ a * b := Int.mul_le_mul_of_nonneg_left (Int.le_of_lt h) ha
  have h2 : a * b < b * b := Int.mul_lt_mul_of_pos_right h (by omega)
  omega
theorem le_of_sq {a b : Int} (hb : 0 ≤ b) (h : a * a ≤ b * b) : a ≤ b := by
  by_cases h1 : a ≤ b
  · exact h1
  · have := sq_lt hb (show b < a by omega)
    omega
theorem even_dvd {n d : Int} (hd : d % 2 = 0) (h : n % d = 0) : n % 2 = 0 := by
  obtain ⟨q, hq⟩ := Int.dvd_of_emod_eq_zero h
  obtain ⟨r, hr⟩ := Int.dvd_of_emod_eq_zero hd
  rw [hq, hr, Int.mul_assoc]
  exact Int.mul_emod_right 2 _

def sp_is_prime (K : PySem.W.Frag) : Sp := fun vs H Q _ => ∃ n : Int, vs = [.int n] ∧ 0 ≤ n ∧ n < 2000000000 ∧ ∀ b : Bool, (b = true ↔ PrimeI n) → Q (.bl b) H
theorem ok_is_prime (T : Txt K mg) : FnOk P w K mg base CX0 1 T.a_is_prime T.fd_is_prime ["n"] (sp_is_prime K) := by
  refine T.F_is_prime.ok sc_is_prime (fun vs H Q E h => ?_) (fun cdv A outer s H vs Q E hr h => ?_)
  · obtain ⟨n, rfl, _⟩ := h
    rfl
  · obtain ⟨n, rfl, h0, h1, q⟩ := h
    refine ⟨_, (pss_cons (ps_if (pt_cmpR op_lt (pv 0) pe_int (nomark _))
      (pss_one (ps_ret (pe_cmpR op_gt (pv 0) pe_int (nomark _))))
      pss_nil)
      (pss_cons (ps_if (pt_cmpR op_eq (pe_op op_mod (pv 0) pe_int) pe_int (nomark _))
      (pss_one (ps_ret pe_bl))
      pss_nil)
      (pss_cons (ps_for PassesOwn.never rfl (pi_range3 (by rfl) T.m_range (pa_cons pe_int (pa_cons (pe_op op_add (pe_callBfun cr_isqrt (by rfl) T.m_isqrt (pa_cons (pv 0) pa_nil)) pe_int) (pa_cons pe_int pa_nil)))) (pg_name (i := 1) sc_is_prime.nd rfl (Or.inl rfl))
      (pss_one (ps_if (pt_cmpR op_eq (pe_op op_mod (pv 0) (pv 1)) pe_int (nomark _))
      (pss_one (ps_ret pe_bl))
      pss_nil)))
      (pss_one (ps_ret pe_bl))))), ?_⟩
    walk_at "start"
    walk_at "x"
    refine x_ite (fun hc => ?_) (fun hc => ?_)
    · walk_at "x"
      refine q _ ⟨fun e => ⟨by have := of_decide_eq_true e; omega, fun d h2 hd => ?_⟩, fun e => decide_eq_true (by have := e.1; omega)⟩
      have : 2 * 2 ≤ d * d := Int.mul_le_mul h2 h2 (by decide) (by omega)
      omega
    · walk_at "x"
      refine x_ite (fun hc2 => ?_) (fun hc2 => ?_)
      · walk_at "x"
        exact q _ ⟨fun e => (by cases e), fun e => absurd hc2 (e.2 2 (by decide) (by omega))⟩
      · walk_at "x"
        have hn2 : ∀ d : Int, d % 2 = 0 → n % d ≠ 0 := fun d hd e => hc2 (even_dvd hd e)
        obtain ⟨r, er, hr0, hr1, hr2⟩ := isq_spec h0
        have hr3 : r < 44722 := by
          by_cases hh : r < 44722
          · exact hh
          · have : (44722 : Int) * 44722 ≤ r * r := Int.mul_le_mul (by omega) (by omega) (by decide) (by omega)
            omega
        refine x_forR3 3 (r + 1) 2 (fun i σ' H' => ∃ v, σ' = [some (.int n), v] ∧ H' = H ∧ ∀ d : Int, 2 ≤ d → d < 3 + (i : Int) * 2 → n % d ≠ 0) (fun R k => k) (fun R k => by walk_at "x"; exact x_isqrt0 h0 (by omega) er (by walk_at "x"; exact k)) (fun R k => k) (by decide) (by decide) (by decide) (by decide) (by omega) (by omega) ?_ ?_ ?_
        · exact ⟨none, rfl, rfl, fun d h2 h3 => by
            have e : d = 2 := by omega
            rw [e]; exact hc2⟩
        · rintro i σ' H' hi ⟨v, rfl, rfl, hI⟩
          walk_at "x"
          refine x_ite (fun hd => ?_) (fun hd => ?_)
          · walk_at "x"
            refine q _ ⟨fun e => (by cases e), fun e => absurd hd (e.2 _ (by omega) ?_)⟩
            have : (3 + (i : Int) * 2) * (3 + (i : Int) * 2) ≤ r * r := Int.mul_le_mul (by omega) (by omega) (by omega) (by omega)
            omega
          · walk_at "x"
            refine ⟨_, rfl, rfl, fun d h2 h3 => ?_⟩
            by_cases h4 : d < 3 + (i : Int) * 2
            · exact hI d h2 h4
            · by_cases h5 : d = 3 + (i : Int) * 2
              · rw [h5]; exact hd
              · exact hn2 d (by omega)
        · rintro i σ' H' hi ⟨v, rfl, rfl, hI⟩
          walk_at "x"
          refine q _ ⟨fun _ => ⟨by omega, fun d h2 h3 => hI d h2 ?_⟩, fun _ => rfl⟩
          have : d < r + 1 := by
            by_cases hh : d < r + 1
            · exact hh
            · have : (r + 1) * (r + 1) ≤ d * d := Int.mul_le_mul (by omega) (by omega) (by omega) (by omega)
              omega
          omega



open Br.F
/-- a value of any kind that the laws put in -/
inductive Odd (H : Hp) : V → Prop
  | int (i : Int) : Odd H (.int i)
  | bl (b : Bool) : Odd H (.bl b)
  | non : Odd H .non
  | str (x : Str) : Odd H (.str x)
  | tup (a : Addr) (xs : List V) (h : H a = some (.tup xs)) : Odd H (.ref a)
  | lst (a : Addr) (xs : List V) (h : H a = some (.lst xs)) : Odd H (.ref a)
theorem Odd.same {H H' : Hp} {v : V} (h : Odd H v) (s : Same H H') : Odd H' v := by
  cases h with
  | int i => exact .int i
  | bl b => exact .bl b
  | non => exact .non
  | str x => exact .str x
  | tup a xs h => exact .tup a xs (s _ _ h)
  | lst a xs h => exact .lst a xs (s _ _ h)
def isB (v : V) (b : Int) : Bool := match v with
  | .int i => decide (0 ≤ i) && decide (i < b)
  | _ => false
theorem isB_int {i b : Int} (h0 : 0 ≤ i) (h1 : i < b) : isB (.int i) b = true := by
  show (decide (0 ≤ i) && decide (i < b)) = true
  rw [decide_eq_true h0, decide_eq_true h1]; rfl

def sp_is_below (K : PySem.W.Frag) : Sp := fun vs H Q _ => ∃ (v : V) (b : Int), vs = [v, .int b] ∧ Odd H v ∧ Q (.bl (isB v b)) H
theorem ok_is_below (T : Txt K mg) : FnOk P w K mg base CX0 1 T.a_is_below T.fd_is_below ["value", "bound"] (sp_is_below K) := by
  refine T.F_is_below.ok sc_is_below (fun vs H Q E h => ?_) (fun cdv A outer s H vs Q E hr h => ?_)
  · obtain ⟨v, b, rfl, _⟩ := h
    rfl
  · obtain ⟨v, b, rfl, hv, q⟩ := h
    refine ⟨_, (pss_one (ps_ret (pe_and (pe_callB (id := "isinstance") (r := rIsi K) call_isi (by rfl) T.m_isinstance (by decide +kernel) (pa_cons (pv 0) (pa_cons (pe_bltn (v := .ty "int") (by rfl) T.m_int (by decide +kernel) rfl) pa_nil))) (pe_and (pe_not (pe_callB (id := "isinstance") (r := rIsi K) call_isi (by rfl) T.m_isinstance (by decide +kernel) (pa_cons (pv 0) (pa_cons (pe_bltn (v := .ty "bool") (by rfl) T.m_bool (by decide +kernel) rfl) pa_nil)))) (pe_one (pe_chain op_le op_lt pe_int (pv 0) (pv 1))))))), ?_⟩
    walk_at "start"
    cases hv with
    | int i =>
      walk_at "x"
      walk_at "is"
      walk_at "t"
      walk_at "is"
      walk_at "t"
      refine x_ite (fun h0 => ?_) (fun h0 => ?_)
      · walk_at "x"
        have e : isB (.int i) b = decide (i < b) := by show (decide (0 ≤ i) && decide (i < b)) = _; rw [decide_eq_true h0]; rfl
        rw [← e]; exact q
      · have e : isB (.int i) b = false := by show (decide (0 ≤ i) && decide (i < b)) = _; rw [decide_eq_false h0]; rfl
        rw [← e]; exact q
    | bl x =>
      walk_at "x"
      walk_at "is"
      walk_at "t"
      walk_at "is"
      walk_at "f"
      exact q
    | non =>
      walk_at "x"
      walk_at "is"
      walk_at "f"
      exact q
    | str x =>
      walk_at "x"
      walk_at "is"
      walk_at "f"
      exact q
    | tup a xs h =>
      walk_at "x"
      walk_at "is"
      walk_at "f"
      exact q
    | lst a xs h =>
      walk_at "x"
      walk_at "is"
      walk_at "f"
      exact q



def sp_is_modulus (K : PySem.W.Frag) : Sp := fun vs H Q _ => ∃ (v : V), vs = [v] ∧ Odd H v ∧ Q (.bl (isB v 1000000001 && !isB v 2)) H
theorem ok_is_modulus (T : Txt K mg) : FnOk P w K mg base CX0 2 T.a_is_modulus T.fd_is_modulus ["value"] (sp_is_modulus K) := by
  refine T.F_is_modulus.ok sc_is_modulus (fun vs H Q E h => ?_) (fun cdv A outer s H vs Q E hr h => ?_)
  · obtain ⟨v, rfl, _⟩ := h
    rfl
  · obtain ⟨v, rfl, hv, q⟩ := h
    refine ⟨_, (pss_one (ps_ret (pe_and (pe_call (ok_is_below T) hr (by rfl) T.g_is_below T.F_is_below.kp T.b_is_below .nil pass0 (pa_cons (pv 0) (pa_cons (pe_op op_add (pe_glob (v := .int 1000000000) (by rfl) T.c_GREATEST_MODULUS ⟨_, rfl⟩) pe_int) pa_nil))) (pe_one (pe_cmpR op_ge (pv 0) pe_int (nomark _)))))), ?_⟩
    walk_at "start"
    walk_at "x"
    refine ⟨v, _, rfl, hv, ?_⟩
    walk_at "x"
    refine x_iteB (fun hb => ?_) (fun hb => ?_)
    · cases hv with
      | int i =>
        have h0 : 0 ≤ i := by
          by_cases h0 : 0 ≤ i
          · exact h0
          · exfalso
            have e : (decide (0 ≤ i) && decide (i < 1000000000 + 1)) = true := hb
            rw [decide_eq_false h0] at e
            cases e
        walk_at "x"
        have e : (isB (.int i) 1000000001 && !isB (.int i) 2) = decide (2 ≤ i) := by
          rw [show isB (.int i) 1000000001 = true from hb]
          show (true && !(decide (0 ≤ i) && decide (i < 2))) = _
          rw [decide_eq_true h0]
          by_cases h2 : 2 ≤ i
          · rw [decide_eq_true h2, decide_eq_false (show ¬ i < 2 by omega)]; rfl
          · rw [decide_eq_false h2, decide_eq_true (show i < 2 by omega)]; rfl
        rw [← e]
        exact q
      | _ => cases hb
    · rw [show isB v 1000000001 = false from hb] at q
      exact q




def sp_is_factor (K : PySem.W.Frag) : Sp := fun vs H Q _ => ∃ (a : Addr) (f : Fac) (t c i : Nat), vs = [.ref a, .int (t : Int), .int (c : Int), .int (i : Int)] ∧ FacAt H a f ∧ FacOk c i t f ∧ Q (.bl true) H
theorem ok_is_factor (T : Txt K mg) : FnOk P w K mg base CX0 2 T.a_is_factor T.fd_is_factor ["factor", "target", "cells", "inputs"] (sp_is_factor K) := by
  refine T.F_is_factor.ok sc_is_factor (fun vs H Q E h => ?_) (fun cdv A outer s H vs Q E hr h => ?_)
  · obtain ⟨a, f, t, c, i, rfl, _⟩ := h
    rfl
  · obtain ⟨a, f, t, c, i, rfl, hf, ok, q⟩ := h
    refine ⟨_, (pss_cons (ps_if (pt_not (pt_val (pe_callB (id := "isinstance") (r := rIsi K) call_isi (by rfl) T.m_isinstance (by decide +kernel) (pa_cons (pv 0) (pa_cons (pe_bltn (v := .ty "tuple") (by rfl) T.m_tuple (by decide +kernel) rfl) pa_nil)))))
      (pss_one (ps_ret pe_bl))
      pss_nil)
      (pss_one (ps_match (pv 0) (pcs_seq rfl op_eq (pcap_name 4 sc_is_factor.nd rfl (.inl rfl) pcap_nil)
      (pss_one (ps_ret (pe_and (pe_call (ok_is_below T) hr (by rfl) T.g_is_below T.F_is_below.kp T.b_is_below .nil pass0 (pa_cons (pv 4) (pa_cons (pv 2) pa_nil))) (pe_one (pe_cmpR op_ne (pv 4) (pv 1) (nomark _))))))
      (pcs_seq rfl op_eq (pcap_name 4 sc_is_factor.nd rfl (.inl rfl) pcap_nil)
      (pss_one (ps_ret (pe_call (ok_is_below T) hr (by rfl) T.g_is_below T.F_is_below.kp T.b_is_below .nil pass0 (pa_cons (pv 4) (pa_cons (pv 3) pa_nil)))))
      (pcs_else (rest := _) (pss_one (ps_ret pe_bl)))))))), ?_⟩
    walk_at "start"
    cases f with
    | cell k =>
      have hf : H a = some (.tup [.str "cell", .int (k : Int)]) := hf
      walk_at "x"
      walk_at "is"
      walk_at "f"
      refine x_caseY (st_of hf) rfl ?_
      walk_at "xb"
      refine ⟨_, _, rfl, .int _, ?_⟩
      walk_at "x"
      rw [isB_int (by omega) (by have := ok.1; omega)]
      walk_at "t"
      rw [decide_eq_false (show ¬ (k : Int) = (t : Int) by have := ok.2; omega)]
      exact q
    | inp k =>
      have hf : H a = some (.tup [.str "input", .int (k : Int)]) := hf
      walk_at "x"
      walk_at "is"
      walk_at "f"
      refine x_caseW (st_of hf) rfl (by decide) ?_
      refine x_caseY (st_of hf) rfl ?_
      walk_at "xb"
      refine ⟨_, _, rfl, .int _, ?_⟩
      rw [isB_int (by omega) (by have h : k < i := ok; omega)]
      exact q


def sp_are_factors (K : PySem.W.Frag) : Sp := fun vs H Q _ => ∃ (a : Addr) (as : List Addr) (fs : List Fac) (t c i : Nat), vs = [.ref a, .int (t : Int), .int (c : Int), .int (i : Int)] ∧ H a = some (.tup (as.map V.ref)) ∧ as.length = fs.length ∧ (∀ (k : Nat) x b, fs[k]? = some x → as[k]? = some b → FacAt H b x) ∧
  fs.length ≤ 3 ∧ (∀ f, f ∈ fs → FacOk c i t f) ∧ ∀ H', Same H H' → Q (.bl true) H'
theorem ok_are_factors (T : Txt K mg) : FnOk P w K mg base CX0 3 T.a_are_factors T.fd_are_factors ["factors", "target", "cells", "inputs"] (sp_are_factors K) := by
  refine T.F_are_factors.ok sc_are_factors (fun vs H Q E h => ?_) (fun cdv A outer s H vs Q E hr h => ?_)
  · obtain ⟨a, as, fs, t, c, i, rfl, _⟩ := h
    rfl
  · obtain ⟨a, as, fs, t, c, i, rfl, ha, hl, hf, h3, ok, q⟩ := h
    refine ⟨_, (pss_cons (ps_if (PW.pt (pw_or (pt_not (pt_val (pe_callB (id := "isinstance") (r := rIsi K) call_isi (by rfl) T.m_isinstance (by decide +kernel) (pa_cons (pv 0) (pa_cons (pe_bltn (v := .ty "tuple") (by rfl) T.m_tuple (by decide +kernel) rfl) pa_nil))))) (pw_or1 (pt_cmpR op_gt (pe_callB (id := "len") (r := rLen K) cr_len (by rfl) T.m_len PySem.boot_len (pa_cons (pv 0) pa_nil)) (pe_glob (v := .int 3) (by rfl) T.c_MOST_FACTORS ⟨_, rfl⟩) (nomark _)))))
      (pss_one (ps_ret pe_bl))
      pss_nil)
      (pss_one (ps_ret (pe_callB (id := "all") (r := rAll K) (cr_all rfl) (by rfl) T.m_all (by decide +kernel) (pa_cons (pe_lc (own := [("factor", 4)]) (g := gName 4) (tt := tYes) rfl sc_are_factors.nd (pi_tup (pv 0)) (blkOk_by (N := N_are_factors) (sc := defScope s_are_factors) (by decide +kernel)) (fun _ _ _ _ _ => (pg_name (i := 4) sc_are_factors.nd rfl (Or.inl rfl))) (fun _ _ _ _ _ => pts_nil) (fun _ _ _ _ _ => (pe_call (ok_is_factor T) hr (by rfl) T.g_is_factor T.F_is_factor.kp T.b_is_factor .nil pass0 (pa_cons (pv 4) (pa_cons (pv 1) (pa_cons (pv 2) (pa_cons (pv 3) pa_nil))))))) pa_nil))))), ?_⟩
    walk_at "start"
    walk_at "x"
    walk_at "is"
    walk_at "f"
    refine x_lenT (st_of ha) ?_
    walk_at "x"
    rw [List.length_map, hl, decide_eq_false (show ¬ (3 : Int) < (fs.length : Int) by omega)]
    walk_at "f"
    refine x_lcB (xs := as.map V.ref) (fun _ => true) (J := Itt K a) (G := fun H => SqT K H a (as.map V.ref)) (fun R r => ⟨_, rfl, a, rfl, ⟨_, st_of ha⟩, r⟩) walk_tup (by rw [List.length_map]; omega) (fun H' s => st_of (s _ _ ha)) (fun x => rfl) ?_ ?_
    · intro k x H' hs hx R hR
      obtain ⟨b, hb, rfl⟩ := map_getR hx
      have hk : k < fs.length := by
        have := (List.getElem?_eq_some_iff.mp hb).1
        omega
      walk_at "x"
      exact ⟨b, _, t, c, i, rfl, (hf k _ b (List.getElem?_eq_getElem hk) hb).tups (Tups.same hs), ok _ (List.getElem_mem hk), hR H' (Same.refl _)⟩
    · intro p H' hp hs hP
      walk_at "x"
      refine x_all hP ?_
      rw [all_range fun _ _ => rfl]
      exact q H' hs


def sp_are_three_cells (K : PySem.W.Frag) : Sp := fun vs H Q _ => ∃ (t a b c : Nat), vs = [.int (t : Int), .int (a : Int), .int (b : Int), .int (c : Int)] ∧ t < c ∧ a < c ∧ b < c ∧ t ≠ a ∧ t ≠ b ∧ a ≠ b ∧ ∀ H', Same H H' → Q (.bl true) H'
theorem ok_are_three_cells (T : Txt K mg) : FnOk P w K mg base CX0 2 T.a_are_three_cells T.fd_are_three_cells ["target", "a", "b", "cells"] (sp_are_three_cells K) := by
  refine T.F_are_three_cells.ok sc_are_three_cells (fun vs H Q E h => ?_) (fun cdv A outer s H vs Q E hr h => ?_)
  · obtain ⟨t, a, b, c, rfl, _⟩ := h
    rfl
  · obtain ⟨t, a, b, c, rfl, ht, ha, hb, hta, htb, hab, q⟩ := h
    refine ⟨_, (pss_cons (ps_if (pt_not (pt_val (pe_callB (id := "all") (r := rAll K) (cr_all rfl) (by rfl) T.m_all (by decide +kernel) (pa_cons (pe_lc (own := [("cell", 4)]) (g := gName 4) (tt := tYes) rfl sc_are_three_cells.nd (pi_tup (pe_tup (pa_cons (pv 0) (pa_cons (pv 1) (pa_cons (pv 2) pa_nil))))) (blkOk_by (N := N_are_three_cells) (sc := defScope s_are_three_cells) (by decide +kernel)) (fun _ _ _ _ _ => (pg_name (i := 4) sc_are_three_cells.nd rfl (Or.inl rfl))) (fun _ _ _ _ _ => pts_nil) (fun _ _ _ _ _ => (pe_call (ok_is_below T) hr (by rfl) T.g_is_below T.F_is_below.kp T.b_is_below .nil pass0 (pa_cons (pv 4) (pa_cons (pv 3) pa_nil))))) pa_nil))))
      (pss_one (ps_ret pe_bl))
      pss_nil)
      (pss_one (ps_ret (pe_and (pe_cmpR op_ne (pv 0) (pv 1) (nomark _)) (pe_and (pe_cmpR op_ne (pv 0) (pv 2) (nomark _)) (pe_one (pe_cmpR op_ne (pv 1) (pv 2) (nomark _)))))))), ?_⟩
    walk_at "start"
    walk_at "x"
    refine x_lcB0 (xs := [.int (t : Int), .int (a : Int), .int (b : Int)]) (fun _ => true) (Nat.le_of_ble_eq_true rfl) (fun R hR => ?_) (fun x => rfl) ?_ ?_
    · unfold iTup
      walk_at "x"
      refine ⟨by show 3 ≤ sizeLine; decide, fun o ho => ?_⟩
      exact ⟨o, rfl, ⟨_, st_of upd_same⟩, hR (Itt K o) _ _ (same_upd ho) walk_tup fun H' s => st_of (s _ _ upd_same)⟩
    · intro k x H' hs hx R hR
      have hx' : x = .int (t : Int) ∨ x = .int (a : Int) ∨ x = .int (b : Int) := by
        have := List.mem_of_getElem? hx
        simpa using this
      walk_at "x"
      rcases hx' with rfl | rfl | rfl
      · refine ⟨_, _, rfl, .int _, ?_⟩
        rw [isB_int (by omega) (by omega)]
        exact hR H' (Same.refl _)
      · refine ⟨_, _, rfl, .int _, ?_⟩
        rw [isB_int (by omega) (by omega)]
        exact hR H' (Same.refl _)
      · refine ⟨_, _, rfl, .int _, ?_⟩
        rw [isB_int (by omega) (by omega)]
        exact hR H' (Same.refl _)
    · intro p H' hs hP
      walk_at "x"
      refine x_all hP ?_
      rw [all_range fun _ _ => rfl]
      walk_at "x"
      walk_at "f"
      rw [decide_eq_false (show ¬ (t : Int) = (a : Int) by omega)]
      walk_at "t"
      rw [decide_eq_false (show ¬ (t : Int) = (b : Int) by omega)]
      walk_at "t"
      rw [decide_eq_false (show ¬ (a : Int) = (b : Int) by omega)]
      exact q H' hs


def sp_is_sign (K : PySem.W.Frag) : Sp := fun vs H Q _ => ∃ (s : Int) (m : Nat), vs = [.int s, .int (m : Int)] ∧ 2 ≤ m ∧ (s = 1 ∨ s = (m : Int) - 1) ∧ ∀ H', Same H H' → Q (.bl true) H'
theorem ok_is_sign (T : Txt K mg) : FnOk P w K mg base CX0 2 T.a_is_sign T.fd_is_sign ["sign", "modulus"] (sp_is_sign K) := by
  refine T.F_is_sign.ok sc_is_sign (fun vs H Q E h => ?_) (fun cdv A outer s H vs Q E hr h => ?_)
  · obtain ⟨s, m, rfl, _⟩ := h
    rfl
  · obtain ⟨s, m, rfl, hm, hs, q⟩ := h
    refine ⟨_, (pss_one (ps_ret (pe_and (pe_call (ok_is_below T) hr (by rfl) T.g_is_below T.F_is_below.kp T.b_is_below .nil pass0 (pa_cons (pv 0) (pa_cons (pv 1) pa_nil))) (pe_one (pe_cmpR (r := rIn K false) op_in_seq (pv 0) (pe_tup (pa_cons pe_int (pa_cons (pe_op op_sub (pv 1) pe_int) pa_nil))) (by with_unfolding_all rfl)))))), ?_⟩
    walk_at "start"
    walk_at "x"
    refine ⟨_, _, rfl, .int _, ?_⟩
    rw [isB_int (by omega) (by omega)]
    walk_at "x"
    walk_at "t"
    refine ⟨by show 2 ≤ sizeLine; decide, fun o ho => ?_⟩
    refine ⟨o, [.int 1, .int ((m : Int) - 1)], rfl, .inr (st_of upd_same), rfl, rfl, ?_⟩
    have e : inV (.int s) [.int 1, .int ((m : Int) - 1)] = true := by
      show ((1 : Int) == s || ((m : Int) - 1 == s || false)) = true
      rcases hs with rfl | rfl
      · simp
      · simp
    rw [e]
    exact q _ (same_upd ho)


def sp_is_row (K : PySem.W.Frag) : Sp := fun vs H Q _ => ∃ (a : Addr) (r : List Int) (n m : Nat), vs = [.ref a, .int (n : Int), .int (m : Int)] ∧ H a = some (.tup (r.map V.int)) ∧ r.length = n ∧ n ≤ 1000 ∧ Rg 0 m r ∧ ∀ H', Same H H' → Q (.bl true) H'
theorem ok_is_row (T : Txt K mg) : FnOk P w K mg base CX0 2 T.a_is_row T.fd_is_row ["row", "size", "modulus"] (sp_is_row K) := by
  refine T.F_is_row.ok sc_is_row (fun vs H Q E h => ?_) (fun cdv A outer s H vs Q E hr h => ?_)
  · obtain ⟨a, r, n, m, rfl, _⟩ := h
    rfl
  · obtain ⟨a, r, n, m, rfl, ha, hl, hn, hR, q⟩ := h
    refine ⟨_, (pss_cons (ps_if (PW.pt (pw_or (pt_not (pt_val (pe_callB (id := "isinstance") (r := rIsi K) call_isi (by rfl) T.m_isinstance (by decide +kernel) (pa_cons (pv 0) (pa_cons (pe_bltn (v := .ty "tuple") (by rfl) T.m_tuple (by decide +kernel) rfl) pa_nil))))) (pw_or1 (pt_cmpR op_ne (pe_callB (id := "len") (r := rLen K) cr_len (by rfl) T.m_len PySem.boot_len (pa_cons (pv 0) pa_nil)) (pv 1) (nomark _)))))
      (pss_one (ps_ret pe_bl))
      pss_nil)
      (pss_one (ps_ret (pe_callB (id := "all") (r := rAll K) (cr_all rfl) (by rfl) T.m_all (by decide +kernel) (pa_cons (pe_lc (own := [("value", 3)]) (g := gName 3) (tt := tYes) rfl sc_is_row.nd (pi_tup (pv 0)) (blkOk_by (N := N_is_row) (sc := defScope s_is_row) (by decide +kernel)) (fun _ _ _ _ _ => (pg_name (i := 3) sc_is_row.nd rfl (Or.inl rfl))) (fun _ _ _ _ _ => pts_nil) (fun _ _ _ _ _ => (pe_call (ok_is_below T) hr (by rfl) T.g_is_below T.F_is_below.kp T.b_is_below .nil pass0 (pa_cons (pv 3) (pa_cons (pv 2) pa_nil))))) pa_nil))))), ?_⟩
    walk_at "start"
    walk_at "x"
    walk_at "is"
    walk_at "f"
    refine x_lenT (st_of ha) ?_
    walk_at "x"
    rw [List.length_map, hl, decide_eq_true rfl]
    walk_at "f"
    refine x_lcB (xs := r.map V.int) (fun _ => true) (J := Itt K a) (G := fun H => SqT K H a (r.map V.int)) (fun R r => ⟨_, rfl, a, rfl, ⟨_, st_of ha⟩, r⟩) walk_tup (by rw [List.length_map]; omega) (fun H' s => st_of (s _ _ ha)) (fun x => rfl) ?_ ?_
    · intro k x H' hs hx R hR'
      obtain ⟨z, hz, rfl⟩ := map_get hx
      walk_at "x"
      refine ⟨_, _, rfl, .int _, ?_⟩
      rw [isB_int (hR.get hz).1 (hR.get hz).2]
      exact hR' H' (Same.refl _)
    · intro p H' hp hs hP
      walk_at "x"
      refine x_all hP ?_
      rw [all_range fun _ _ => rfl]
      exact q H' hs


def sp_is_table (K : PySem.W.Frag) : Sp := fun vs H Q _ => ∃ (a : Addr) (tb : List (List Int)) (m : Nat), vs = [.ref a, .int (m : Int)] ∧ TbAt H a tb ∧ IsTab m tb ∧ tb.length ≤ 1000 ∧ ∀ H', Same H H' → Q (.bl true) H'
theorem ok_is_table (T : Txt K mg) : FnOk P w K mg base CX0 3 T.a_is_table T.fd_is_table ["table", "modulus"] (sp_is_table K) := by
  refine T.F_is_table.ok sc_is_table (fun vs H Q E h => ?_) (fun cdv A outer s H vs Q E hr h => ?_)
  · obtain ⟨a, tb, m, rfl, _⟩ := h
    rfl
  · obtain ⟨a, tb, m, rfl, ⟨as, ha, hl, hrow⟩, hI, hn, q⟩ := h
    have h1 := hI.pos
    have h2 := hI.le
    refine ⟨_, (pss_cons (ps_if (PW.pt (pw_or (pt_not (pt_val (pe_callB (id := "isinstance") (r := rIsi K) call_isi (by rfl) T.m_isinstance (by decide +kernel) (pa_cons (pv 0) (pa_cons (pe_bltn (v := .ty "tuple") (by rfl) T.m_tuple (by decide +kernel) rfl) pa_nil))))) (pw_or1 (pt_not (pt_chain op_le op_le pe_int (pe_callB (id := "len") (r := rLen K) cr_len (by rfl) T.m_len PySem.boot_len (pa_cons (pv 0) pa_nil)) (pv 1))))))
      (pss_one (ps_ret pe_bl))
      pss_nil)
      (pss_one (ps_ret (pe_callB (id := "all") (r := rAll K) (cr_all rfl) (by rfl) T.m_all (by decide +kernel) (pa_cons (pe_lc (own := [("row", 2)]) (g := gName 2) (tt := tYes) rfl sc_is_table.nd (pi_tup (pv 0)) (blkOk_by (N := N_is_table) (sc := defScope s_is_table) (by decide +kernel)) (fun _ _ _ _ _ => (pg_name (i := 2) sc_is_table.nd rfl (Or.inl rfl))) (fun _ _ _ _ _ => pts_nil) (fun _ _ _ _ _ => (pe_call (ok_is_row T) hr (by rfl) T.g_is_row T.F_is_row.kp T.b_is_row .nil pass0 (pa_cons (pv 2) (pa_cons (pe_callB (id := "len") (r := rLen K) cr_len (by rfl) T.m_len PySem.boot_len (pa_cons (pv 0) pa_nil)) (pa_cons (pv 1) pa_nil)))))) pa_nil))))), ?_⟩
    walk_at "start"
    walk_at "x"
    walk_at "is"
    walk_at "f"
    refine x_lenT (st_of ha) ?_
    walk_at "x"
    rw [List.length_map, hl, decide_eq_true (show (1 : Int) ≤ (tb.length : Int) by omega)]
    walk_at "t"
    rw [decide_eq_true (show (tb.length : Int) ≤ (m : Int) by omega)]
    walk_at "f"
    refine x_lcB (xs := as.map V.ref) (fun _ => true) (J := Itt K a) (G := fun H => SqT K H a (as.map V.ref)) (fun R r => ⟨_, rfl, a, rfl, ⟨_, st_of ha⟩, r⟩) walk_tup (by rw [List.length_map]; omega) (fun H' s => st_of (s _ _ ha)) (fun x => rfl) ?_ ?_
    · intro k x H' hs hx R hR
      obtain ⟨b, hb, rfl⟩ := map_getR hx
      have hk : k < tb.length := by
        have := (List.getElem?_eq_some_iff.mp hb).1
        omega
      obtain ⟨rl, rR⟩ := hI.rows k _ (List.getElem?_eq_getElem hk)
      walk_at "x"
      refine x_lenT (st_of (hs _ _ ha)) ?_
      walk_at "x"
      rw [List.length_map, hl]
      exact ⟨b, _, tb.length, m, rfl, hs _ _ (hrow k _ b (List.getElem?_eq_getElem hk) hb), rl, hn, rR, fun H2 s2 => hR H2 s2⟩
    · intro p H' hp hs hP
      walk_at "x"
      refine x_all hP ?_
      rw [all_range fun _ _ => rfl]
      exact q H' hs


def sp_is_step (K : PySem.W.Frag) : Sp := fun vs H Q _ => ∃ (a : Addr) (s : Stp) (m c i : Nat), vs = [.ref a, .int (m : Int), .int (c : Int), .int (i : Int)] ∧ StpAt H a s ∧ StpOk m c i s ∧ 2 ≤ m ∧ ∀ H', Same H H' → Q (.bl true) H'
theorem ok_is_step (T : Txt K mg) : FnOk P w K mg base CX0 4 T.a_is_step T.fd_is_step ["step", "modulus", "cells", "inputs"] (sp_is_step K) := by
  refine T.F_is_step.ok sc_is_step (fun vs H Q E h => ?_) (fun cdv A outer s H vs Q E hr h => ?_)
  · obtain ⟨a, s, m, c, i, rfl, _⟩ := h
    rfl
  · obtain ⟨a, s, m, c, i, rfl, hs, ok, hm, q⟩ := h
    refine ⟨_, (pss_cons (ps_if (pt_not (pt_val (pe_callB (id := "isinstance") (r := rIsi K) call_isi (by rfl) T.m_isinstance (by decide +kernel) (pa_cons (pv 0) (pa_cons (pe_bltn (v := .ty "tuple") (by rfl) T.m_tuple (by decide +kernel) rfl) pa_nil)))))
      (pss_one (ps_ret pe_bl))
      pss_nil)
      (pss_one (ps_match (pv 0) (pcs_seq rfl op_eq (pcap_name 4 sc_is_step.nd rfl (.inl rfl) (pcap_name 5 sc_is_step.nd rfl (.inl rfl) (pcap_name 6 sc_is_step.nd rfl (.inl rfl) pcap_nil)))
      (pss_one (ps_ret (pe_and (pe_call (ok_is_below T) (hr.mono (by decide)) (by rfl) T.g_is_below T.F_is_below.kp T.b_is_below .nil pass0 (pa_cons (pv 4) (pa_cons (pv 2) pa_nil))) (pe_and (pe_call (ok_is_below T) (hr.mono (by decide)) (by rfl) T.g_is_below T.F_is_below.kp T.b_is_below .nil pass0 (pa_cons (pv 5) (pa_cons (pv 1) pa_nil))) (pe_one (pe_call (ok_are_factors T) hr (by rfl) T.g_are_factors T.F_are_factors.kp T.b_are_factors .nil pass0 (pa_cons (pv 6) (pa_cons (pv 4) (pa_cons (pv 2) (pa_cons (pv 3) pa_nil))))))))))
      (pcs_seq rfl op_eq (pcap_name 4 sc_is_step.nd rfl (.inl rfl) (pcap_name 7 sc_is_step.nd rfl (.inl rfl) pcap_nil))
      (pss_one (ps_ret (pe_and (pe_call (ok_is_below T) (hr.mono (by decide)) (by rfl) T.g_is_below T.F_is_below.kp T.b_is_below .nil pass0 (pa_cons (pv 4) (pa_cons (pv 2) pa_nil))) (pe_and (pe_call (ok_is_below T) (hr.mono (by decide)) (by rfl) T.g_is_below T.F_is_below.kp T.b_is_below .nil pass0 (pa_cons (pv 7) (pa_cons (pv 1) pa_nil))) (pe_one (pe_cmpR op_eq (pe_callBfun cr_gcd (by rfl) T.m_gcd (pa_cons (pv 7) (pa_cons (pv 1) pa_nil))) pe_int (nomark _)))))))
      (pcs_seq rfl op_eq (pcap_name 8 sc_is_step.nd rfl (.inl rfl) (pcap_name 9 sc_is_step.nd rfl (.inl rfl) pcap_nil))
      (pss_one (ps_ret (pe_and (pe_call (ok_is_below T) (hr.mono (by decide)) (by rfl) T.g_is_below T.F_is_below.kp T.b_is_below .nil pass0 (pa_cons (pv 8) (pa_cons (pv 2) pa_nil))) (pe_and (pe_call (ok_is_below T) (hr.mono (by decide)) (by rfl) T.g_is_below T.F_is_below.kp T.b_is_below .nil pass0 (pa_cons (pv 9) (pa_cons (pv 2) pa_nil))) (pe_one (pe_cmpR op_ne (pv 8) (pv 9) (nomark _)))))))
      (pcs_seq rfl op_eq (pcap_name 4 sc_is_step.nd rfl (.inl rfl) (pcap_name 10 sc_is_step.nd rfl (.inl rfl) (pcap_name 11 sc_is_step.nd rfl (.inl rfl) (pcap_name 8 sc_is_step.nd rfl (.inl rfl) (pcap_name 9 sc_is_step.nd rfl (.inl rfl) pcap_nil)))))
      (pss_one (ps_ret (pe_and (pe_call (ok_are_three_cells T) (hr.mono (by decide)) (by rfl) T.g_are_three_cells T.F_are_three_cells.kp T.b_are_three_cells .nil pass0 (pa_cons (pv 4) (pa_cons (pv 8) (pa_cons (pv 9) (pa_cons (pv 2) pa_nil))))) (pe_and (pe_call (ok_is_sign T) (hr.mono (by decide)) (by rfl) T.g_is_sign T.F_is_sign.kp T.b_is_sign .nil pass0 (pa_cons (pv 10) (pa_cons (pv 1) pa_nil))) (pe_one (pe_call (ok_is_table T) hr (by rfl) T.g_is_table T.F_is_table.kp T.b_is_table .nil pass0 (pa_cons (pv 11) (pa_cons (pv 1) pa_nil))))))))
      (pcs_else (rest := _) (pss_one (ps_ret pe_bl)))))))))), ?_⟩
    walk_at "start"
    cases s with
    | add t k fs =>
      obtain ⟨f, as, h1, h2, h3, h4⟩ := hs
      obtain ⟨o1, o2, o3, o4, o5⟩ := ok
      walk_at "x"
      walk_at "is"
      walk_at "f"
      refine x_caseY (st_of h1) rfl ?_
      walk_at "xb"
      refine ⟨_, _, rfl, .int _, ?_⟩
      rw [isB_int (by omega) (by omega)]
      walk_at "x"
      walk_at "t"
      refine ⟨_, _, rfl, .int _, ?_⟩
      rw [isB_int o2 o3]
      walk_at "x"
      walk_at "t"
      exact ⟨f, as, fs, t, c, i, rfl, h2, h3, h4, o4, o5, q⟩
    | scale t u =>
      have h1 : H a = some (.tup [.str "scale", .int (t : Int), .int u]) := hs
      obtain ⟨o1, o2, o3, o4⟩ := ok
      walk_at "x"
      walk_at "is"
      walk_at "f"
      refine x_caseNo (st_of h1) (Nat.ne_of_beq_eq_false rfl) ?_
      refine x_caseY (st_of h1) rfl ?_
      walk_at "xb"
      refine ⟨_, _, rfl, .int _, ?_⟩
      rw [isB_int (by omega) (by omega)]
      walk_at "x"
      walk_at "t"
      refine ⟨_, _, rfl, .int _, ?_⟩
      rw [isB_int o2 o3]
      walk_at "x"
      walk_at "t"
      refine ⟨u, (m : Int), rfl, ?_⟩
      walk_at "x"
      have e : ((Nat.gcd u.natAbs ((m : Int)).natAbs : Nat) : Int) = 1 := by
        have : Nat.gcd u.natAbs ((m : Int)).natAbs = 1 := o4
        rw [this]; rfl
      rw [e, decide_eq_true rfl]
      exact q H (Same.refl _)
    | swap x y =>
      have h1 : H a = some (.tup [.str "swap", .int (x : Int), .int (y : Int)]) := hs
      obtain ⟨o1, o2, o3⟩ := ok
      walk_at "x"
      walk_at "is"
      walk_at "f"
      refine x_caseNo (st_of h1) (Nat.ne_of_beq_eq_false rfl) ?_
      refine x_caseW (st_of h1) rfl (by decide) ?_
      refine x_caseY (st_of h1) rfl ?_
      walk_at "xb"
      refine ⟨_, _, rfl, .int _, ?_⟩
      rw [isB_int (by omega) (by omega)]
      walk_at "x"
      walk_at "t"
      refine ⟨_, _, rfl, .int _, ?_⟩
      rw [isB_int (by omega) (by omega)]
      walk_at "x"
      walk_at "t"
      rw [decide_eq_false (show ¬ (x : Int) = (y : Int) by omega)]
      exact q H (Same.refl _)
    | tab t g tb x y =>
      obtain ⟨o, h1, h2⟩ := hs
      obtain ⟨o1, o2, o3, o4, o5, o6, o7, o8, o9, o10⟩ := ok
      walk_at "x"
      walk_at "is"
      walk_at "f"
      refine x_caseNo (st_of h1) (Nat.ne_of_beq_eq_false rfl) ?_
      refine x_caseNo (st_of h1) (Nat.ne_of_beq_eq_false rfl) ?_
      refine x_caseNo (st_of h1) (Nat.ne_of_beq_eq_false rfl) ?_
      refine x_caseY (st_of h1) rfl ?_
      walk_at "xb"
      refine ⟨t, x, y, c, rfl, o1, o2, o3, o4, o5, o6, fun H1 s1 => ?_⟩
      walk_at "x"
      walk_at "t"
      refine ⟨g, m, rfl, hm, o7, fun H2 s2 => ?_⟩
      walk_at "x"
      walk_at "t"
      exact ⟨o, tb, m, rfl, (h2.tups (Tups.same s1)).tups (Tups.same s2), o8, o9, fun H3 s3 => q H3 ((s1.trans s2).trans s3)⟩


end
end Br
namespace Br
open PySem PySem.Spec PyProof.Rows L2
local macro_rules | `(tactic| walk_at "x1") => `(tactic| (with_reducible first
  | refine Br.x_seq ?_ | refine Br.x_set ?_ | refine Br.x_asg ?_ | refine Br.x_next ?_ | refine Br.x_ret ?_ | refine Br.x_retN ?_ | refine Br.x_drop ?_ | refine Br.x_if ?_ | refine Br.x_brk ?_ | refine Br.x_cont ?_
  | refine Br.x_c ?_ | refine Br.x_op ?_ | refine Br.x_un ?_ | refine Br.x_I0 ?_ | refine Br.x_U ?_ | refine Br.x_EqI ?_ | refine Br.x_NeI ?_ | refine Br.x_EqB ?_ | refine Br.x_iN ?_ | refine Br.x_int1 ?_ | refine Br.x_min2 ?_ | refine Br.x_max2 ?_ | refine Br.x_nN ?_ | refine Br.x_ifE ?_
  | refine Br.x_test (b := ()) ?_ | refine Br.x_tB ?_ | refine Br.x_bl ?_ | refine Br.x_and ?_ | refine Br.x_or ?_ | refine Br.x_not ?_ | refine Br.x_andV ?_ | refine Br.x_orV ?_ | refine Br.x_notV ?_ | refine Br.x_blP ?_
  | refine Br.x_nil ?_ | refine Br.x_cons ?_ | refine Br.x_call ?_ | refine Br.x_CB ?_ | refine Br.x_BM ?_ | refine Br.x_tup ?_ | refine Br.x_lst ?_ | refine Br.x_chain ?_ | refine Br.x_par ?_ | refine Br.x_gSub ?_ | refine Br.x_gName ?_ | refine Br.x_fld ?_ | refine Br.x_fldS ?_ | refine Br.x_match ?_ | refine Br.x_else ?_ | refine Br.x_noCase ?_))
local macro_rules | `(tactic| walk_at "xv") => `(tactic| ((with_reducible refine' Br.x_var ?hvar ?_); (case hvar => rfl)))
local macro_rules | `(tactic| walk_at "xd") => `(tactic| (dsimp only [List.set_cons_zero, List.set_cons_succ, List.cons_append, List.nil_append, List.append_nil]))
local macro_rules | `(tactic| walk_at "xi") => `(tactic| ((with_reducible refine Br.x_I ?hside ?_); (case hside => first | exact Br.mul_r (by decide) (by decide) | exact Br.mul_l (by decide) (by decide) | exact Br.mul_l (by omega) (by omega) | exact Br.mul_r (by omega) (by omega) | (show (0 : Int) < _; first | decide | omega) | exact ⟨by decide, by decide⟩ | exact ⟨by omega, by omega⟩ | exact ⟨by decide, by decide, by decide⟩)))
local macro_rules | `(tactic| walk_at "x") => `(tactic| (repeat (first | walk_at "x1" | walk_at "xv" | walk_at "xi" | walk_at "xd")))
local macro_rules | `(tactic| walk_at "start") => `(tactic| (simp only [L2.start, List.map_cons, List.map_nil, List.length_cons, List.length_nil, Nat.reduceAdd, Nat.reduceSub, List.replicate, List.cons_append, List.nil_append, List.append_nil]))
local macro_rules | `(tactic| walk_at "isi") => `(tactic| first
  | refine Br.x_isi (b := true) (.base (.int _)) (by decide +kernel) ?_ | refine Br.x_isi (b := false) (.base (.int _)) (by decide +kernel) ?_
  | refine Br.x_isi (b := true) (.base (.bl _)) (by decide +kernel) ?_ | refine Br.x_isi (b := false) (.base (.bl _)) (by decide +kernel) ?_
  | refine Br.x_isi (b := false) (.base .non) (by decide +kernel) ?_
  | refine Br.x_isi (b := true) (.base (.str _)) (by decide +kernel) ?_ | refine Br.x_isi (b := false) (.base (.str _)) (by decide +kernel) ?_
  | refine Br.x_isi (b := true) (.base (.tup (by assumption))) (by decide +kernel) ?_ | refine Br.x_isi (b := false) (.base (.tup (by assumption))) (by decide +kernel) ?_
  | refine Br.x_isi (b := true) (.base (.lst (by assumption))) (by decide +kernel) ?_ | refine Br.x_isi (b := false) (.base (.lst (by assumption))) (by decide +kernel) ?_)
local macro_rules | `(tactic| walk_at "f") => `(tactic| (refine L2.iteF ?_; walk_at "x"))
local macro_rules | `(tactic| walk_at "t") => `(tactic| (refine L2.iteT ?_; walk_at "x"))
local macro_rules | `(tactic| walk_at "is") => `(tactic| (walk_at "isi"; walk_at "x"))
local macro_rules | `(tactic| walk_at "xb") => `(tactic| (simp only [Br.bindS, List.set_cons_zero, List.set_cons_succ]; walk_at "x"))

section
variable {P : Program} {w : World} {K : PySem.W.Frag} {mg : Str → Option Value} {base : Heap}

open Br.F

def sp_product_of (K : PySem.W.Frag) : Sp := fun vs H Q _ => ∃ (f mo io : Addr) (as : List Addr) (fs : List Fac) (t c i m : Nat) (mv iv : List Int), vs = [.ref f, .ref mo, .ref io, .int (m : Int)] ∧ H f = some (.tup (as.map V.ref)) ∧ as.length = fs.length ∧ (∀ (k : Nat) x b, fs[k]? = some x → as[k]? = some b → FacAt H b x) ∧
  (∀ x, x ∈ fs → FacOk c i t x) ∧ H mo = some (.lst (mv.map V.int)) ∧ H io = some (.lst (iv.map V.int)) ∧ Mem m c mv ∧ Mem m i iv ∧ 2 ≤ m ∧ m ≤ 1000000000 ∧ ∀ r : Int, 0 ≤ r → r < m → (m : Int) ∣ r - prodV mv iv fs → Q (.int r) H
theorem prodV_snoc {mv iv : List Int} {f : Fac} : ∀ {fs : List Fac}, prodV mv iv (fs ++ [f]) = prodV mv iv fs * facV mv iv f
  | [] => by show facV mv iv f * 1 = 1 * facV mv iv f; rw [Int.mul_one, Int.one_mul]
  | x :: fs => by
    show facV mv iv x * prodV mv iv (fs ++ [f]) = facV mv iv x * prodV mv iv fs * facV mv iv f
    rw [prodV_snoc, Int.mul_assoc]
theorem ok_product_of (T : Txt K mg) : FnOk P w K mg base CX0 1 T.a_product_of T.fd_product_of ["factors", "memory", "given", "modulus"] (sp_product_of K) := by
  refine T.F_product_of.ok sc_product_of (fun vs H Q E h => ?_) (fun cdv A outer s H vs Q E hr h => ?_)
  · obtain ⟨f, mo, io, as, fs, t, c, i, m, mv, iv, rfl, _⟩ := h
    rfl
  · obtain ⟨f, mo, io, as, fs, t, c, i, m, mv, iv, rfl, hf, hl, hfa, ok, hm, hi, mm, mi, m2, m9, q⟩ := h
    refine ⟨_, (pss_cons (ps_set (i := 4) sc_product_of.nd rfl (.inl rfl) pe_int)
      (pss_cons (ps_for PassesOwn.never rfl (pi_tup (pv 0)) (pg_tup rfl (pgs_cons (pg_name (i := 5) sc_product_of.nd rfl (Or.inl rfl)) (pgs_cons (pg_name (i := 6) sc_product_of.nd rfl (Or.inl rfl)) pgs_nil)))
      (pss_cons (ps_set (i := 7) sc_product_of.nd rfl (.inl rfl) (pe_ifExp (pt_cmpR op_eq (pv 5) pe_str (nomark _)) (pe_ix (r := rIxL K) ix_list (pv 1) (pv 6) (fun _ _ => rfl)) (pe_ix (r := rIxL K) ix_list (pv 2) (pv 6) (fun _ _ => rfl))))
      (pss_one (ps_set (i := 4) sc_product_of.nd rfl (.inl rfl) (pe_op op_mod (pe_op op_mul (pv 4) (pv 7)) (pv 3))))))
      (pss_one (ps_ret (pv 4))))), ?_⟩
    walk_at "start"
    walk_at "x"
    refine x_forI (J := Itt K f) (n := (as.map V.ref).length) (G := fun H => SqT K H f (as.map V.ref)) (fun R r => ⟨_, rfl, f, rfl, ⟨_, st_of hf⟩, r⟩) walk_tup (fun k σ' H' => H = H' ∧ ∃ r v5 v6 v7, σ' = [some (.ref f), some (.ref mo), some (.ref io), some (.int (m : Int)), some (.int r), v5, v6, v7] ∧ 0 ≤ r ∧ r < m ∧ (m : Int) ∣ r - prodV mv iv (fs.take k))
      ⟨rfl, 1, _, _, _, rfl, by decide, by omega, 0, rfl⟩ (fun k σ' H' _ z => by rw [← z.1]; exact st_of hf) ?_ ?_
    · rintro k x σ' H' H2 hk ⟨rfl, r, v5, v6, v7, rfl, r0, r1, rd⟩ ⟨rfl, hx⟩
      obtain ⟨b, hb, rfl⟩ := map_getR hx
      have hk : k < fs.length := by
        have := (List.getElem?_eq_some_iff.mp hb).1
        omega
      obtain ⟨y, hy⟩ : ∃ y, fs[k]? = some y := ⟨_, List.getElem?_eq_getElem hk⟩
      have oky := ok y (List.mem_of_getElem? hy)
      have hfy := hfa k y b hy hb
      have fin : ∀ z : Int, z = facV mv iv y → (m : Int) ∣ r * z % m - prodV mv iv (fs.take (k + 1)) := fun z hz => by
        rw [take_snoc hy, prodV_snoc, ← hz]
        exact dvd_step rd
      cases y with
      | cell j =>
        have hfy : H2 b = some (.tup [.str "cell", .int (j : Int)]) := hfy
        obtain ⟨z, gz, ez, z0, z1⟩ := mm.get oky.1
        refine x_gTup2 (st_of hfy) ?_
        walk_at "x"
        refine x_Eq rfl ?_
        walk_at "x"
        rw [decide_eq_true rfl]
        walk_at "t"
        refine x_ixL (v := .int z) (sq_of hm) (atI_nat (by rw [List.getElem?_map, gz]; rfl)) ?_
        walk_at "x"
        exact ⟨rfl, _, _, _, _, rfl, Int.emod_nonneg _ (by omega), Int.emod_lt_of_pos _ (by omega), fin z ez.symm⟩
      | inp j =>
        have hfy : H2 b = some (.tup [.str "input", .int (j : Int)]) := hfy
        obtain ⟨z, gz, ez, z0, z1⟩ := mi.get (show j < i from oky)
        refine x_gTup2 (st_of hfy) ?_
        walk_at "x"
        refine x_Eq rfl ?_
        walk_at "x"
        rw [decide_eq_false (by decide)]
        walk_at "f"
        refine x_ixL (v := .int z) (sq_of hi) (atI_nat (by rw [List.getElem?_map, gz]; rfl)) ?_
        walk_at "x"
        exact ⟨rfl, _, _, _, _, rfl, Int.emod_nonneg _ (by omega), Int.emod_lt_of_pos _ (by omega), fin z ez.symm⟩
    · rintro σ' H' ⟨rfl, r, v5, v6, v7, rfl, r0, r1, rd⟩
      walk_at "x"
      refine q r r0 r1 ?_
      rw [List.length_map, hl, List.take_length] at rd
      exact rd


/-- pairs of a cell and its new content -/
def ChAt (H : Hp) (l : Addr) (cs : List (Nat × Int)) : Prop := ∃ as : List Addr, H l = some (.lst (as.map V.ref)) ∧ as.length = cs.length ∧ ∀ (i : Nat) (x : Nat × Int) b, cs[i]? = some x → as[i]? = some b → H b = some (.tup [.int (x.1 : Int), .int x.2])
def applyC (cs : List (Nat × Int)) (mv : List Int) : List Int := cs.foldl (fun m x => m.set x.1 x.2) mv
def sp_changes (K : PySem.W.Frag) : Sp := fun vs H Q _ => ∃ (a mo io : Addr) (s : Stp) (c i m : Nat) (mv iv : List Int), vs = [.ref a, .ref mo, .ref io, .int (m : Int)] ∧ StpAt H a s ∧ StpOk m c i s ∧ H mo = some (.lst (mv.map V.int)) ∧ H io = some (.lst (iv.map V.int)) ∧ Mem m c mv ∧ Mem m i iv ∧ 2 ≤ m ∧ m ≤ 1000000000 ∧
  ∀ (l : Addr) (cs : List (Nat × Int)) (H' : Hp), H l = none → Same H H' → ChAt H' l cs → applyC cs mv = stepF m iv mv s → cs.length ≤ 2 → (∀ x, x ∈ cs → x.1 < c) → Q (.ref l) H'
theorem ch_one {H : Hp} {p l : Addr} {t : Nat} {z : Int} (hp : H p = none) (hl : (L2.upd H p (.tup [.int (t : Int), .int z])) l = none) : Same H (L2.upd (L2.upd H p (.tup [.int (t : Int), .int z])) l (.lst [.ref p])) ∧ ChAt (L2.upd (L2.upd H p (.tup [.int (t : Int), .int z])) l (.lst [.ref p])) l [(t, z)] := by
  refine ⟨(same_upd hp).trans (same_upd hl), [p], upd_same, rfl, fun i x b e1 e2 => ?_⟩
  match i, e1, e2 with
  | 0, e1, e2 =>
    cases e1
    cases e2
    rw [upd_ne (ne_of_none upd_same hl), upd_same]
  | i + 1, e1, _ => simp at e1
theorem mod_cong {m : Nat} {a b c r : Int} (h : (m : Int) ∣ r - c) : (a + b * r) % m = (a + b * c) % m := by
  refine Int.emod_eq_emod_iff_emod_sub_eq_zero.mpr (Int.emod_eq_zero_of_dvd ?_)
  obtain ⟨k, hk⟩ := h
  refine ⟨b * k, ?_⟩
  have e : r = c + m * k := by omega
  rw [e]
  grind
theorem ok_changes (T : Txt K mg) : FnOk P w K mg base CX0 4 T.a_changes T.fd_changes ["step", "memory", "given", "modulus"] (sp_changes K) := by
  refine T.F_changes.ok sc_changes (fun vs H Q E h => ?_) (fun cdv A outer s H vs Q E hr h => ?_)
  · obtain ⟨a, mo, io, s, c, i, m, mv, iv, rfl, _⟩ := h
    rfl
  · obtain ⟨a, mo, io, s, c, i, m, mv, iv, rfl, hs, ok, hm, hi, mm, mi, m2, m9, q⟩ := h
    refine ⟨_, (pss_one (ps_match (pv 0) (pcs_seq rfl op_eq (pcap_name 4 sc_changes.nd rfl (.inl rfl) (pcap_name 5 sc_changes.nd rfl (.inl rfl) (pcap_name 6 sc_changes.nd rfl (.inl rfl) pcap_nil)))
      (pss_cons (ps_set (i := 7) sc_changes.nd rfl (.inl rfl) (pe_op op_mul (pv 5) (pe_call (ok_product_of T) (hr.mono (by decide)) (by rfl) T.g_product_of T.F_product_of.kp T.b_product_of .nil pass0 (pa_cons (pv 6) (pa_cons (pv 1) (pa_cons (pv 2) (pa_cons (pv 3) pa_nil)))))))
      (pss_one (ps_ret (pe_lst (pa_cons (pe_tup (pa_cons (pv 4) (pa_cons (pe_op op_mod (pe_op op_add (pe_ix (r := rIxL K) ix_list (pv 1) (pv 4) (fun _ _ => rfl)) (pv 7)) (pv 3)) pa_nil))) pa_nil)))))
      (pcs_seq rfl op_eq (pcap_name 4 sc_changes.nd rfl (.inl rfl) (pcap_name 8 sc_changes.nd rfl (.inl rfl) pcap_nil))
      (pss_one (ps_ret (pe_lst (pa_cons (pe_tup (pa_cons (pv 4) (pa_cons (pe_op op_mod (pe_op op_mul (pe_ix (r := rIxL K) ix_list (pv 1) (pv 4) (fun _ _ => rfl)) (pv 8)) (pv 3)) pa_nil))) pa_nil))))
      (pcs_seq rfl op_eq (pcap_name 9 sc_changes.nd rfl (.inl rfl) (pcap_name 10 sc_changes.nd rfl (.inl rfl) pcap_nil))
      (pss_one (ps_ret (pe_lst (pa_cons (pe_tup (pa_cons (pv 9) (pa_cons (pe_ix (r := rIxL K) ix_list (pv 1) (pv 10) (fun _ _ => rfl)) pa_nil))) (pa_cons (pe_tup (pa_cons (pv 10) (pa_cons (pe_ix (r := rIxL K) ix_list (pv 1) (pv 9) (fun _ _ => rfl)) pa_nil))) pa_nil)))))
      (pcs_seq rfl op_eq (pcap_name 4 sc_changes.nd rfl (.inl rfl) (pcap_name 11 sc_changes.nd rfl (.inl rfl) (pcap_name 12 sc_changes.nd rfl (.inl rfl) (pcap_name 9 sc_changes.nd rfl (.inl rfl) (pcap_name 10 sc_changes.nd rfl (.inl rfl) pcap_nil)))))
      (pss_cons (ps_set (i := 7) sc_changes.nd rfl (.inl rfl) (pe_op op_mul (pv 11) (pe_call (ok_interpolate T) hr (by rfl) T.g_interpolate T.F_interpolate.kp T.b_interpolate .nil pass0 (pa_cons (pv 12) (pa_cons (pv 3) (pa_cons (pe_ix (r := rIxL K) ix_list (pv 1) (pv 9) (fun _ _ => rfl)) (pa_cons (pe_ix (r := rIxL K) ix_list (pv 1) (pv 10) (fun _ _ => rfl)) pa_nil)))))))
      (pss_one (ps_ret (pe_lst (pa_cons (pe_tup (pa_cons (pv 4) (pa_cons (pe_op op_mod (pe_op op_add (pe_ix (r := rIxL K) ix_list (pv 1) (pv 4) (fun _ _ => rfl)) (pv 7)) (pv 3)) pa_nil))) pa_nil)))))
      pcs_nil)))))), ?_⟩
    walk_at "start"
    cases s with
    | add t k fs =>
      obtain ⟨f, as, h1, h2, h3, h4⟩ := hs
      obtain ⟨o1, o2, o3, o4, o5⟩ := ok
      obtain ⟨z, gz, ez, z0, z1⟩ := mm.get o1
      walk_at "x"
      refine x_caseY (st_of h1) rfl ?_
      walk_at "xb"
      refine ⟨f, mo, io, as, fs, t, c, i, m, mv, iv, rfl, h2, h3, h4, o5, hm, hi, mm, mi, m2, m9, fun r r0 r1 rd => ?_⟩
      walk_at "x"
      refine x_ixL (v := .int z) (sq_of hm) (atI_nat (by rw [List.getElem?_map, gz]; rfl)) ?_
      walk_at "x"
      refine ⟨by show 2 ≤ sizeLine; decide, fun p hp => ?_⟩
      walk_at "x"
      refine ⟨by show 1 ≤ sizeLine; decide, fun l hl => ?_⟩
      obtain ⟨sm, ch⟩ := ch_one hp hl
      refine q l _ _ ((same_upd hp).free hl) sm ch ?_ (Nat.le_of_ble_eq_true rfl) (fun x hx => by rw [List.mem_singleton.mp hx]; exact o1)
      show mv.set t ((z + k * r) % m) = mv.set t ((mv.getD t 0 + k * prodV mv iv fs) % m)
      rw [ez, mod_cong rd]
    | scale t u =>
      have h1 : H a = some (.tup [.str "scale", .int (t : Int), .int u]) := hs
      obtain ⟨o1, o2, o3, o4⟩ := ok
      obtain ⟨z, gz, ez, z0, z1⟩ := mm.get o1
      walk_at "x"
      refine x_caseNo (st_of h1) (Nat.ne_of_beq_eq_false rfl) ?_
      refine x_caseY (st_of h1) rfl ?_
      walk_at "xb"
      refine x_ixL (v := .int z) (sq_of hm) (atI_nat (by rw [List.getElem?_map, gz]; rfl)) ?_
      walk_at "x"
      refine ⟨by show 2 ≤ sizeLine; decide, fun p hp => ?_⟩
      walk_at "x"
      refine ⟨by show 1 ≤ sizeLine; decide, fun l hl => ?_⟩
      obtain ⟨sm, ch⟩ := ch_one hp hl
      refine q l _ _ ((same_upd hp).free hl) sm ch ?_ (Nat.le_of_ble_eq_true rfl) (fun x hx => by rw [List.mem_singleton.mp hx]; exact o1)
      show mv.set t (z * u % m) = mv.set t (mv.getD t 0 * u % m)
      rw [ez]
    | swap x y =>
      have h1 : H a = some (.tup [.str "swap", .int (x : Int), .int (y : Int)]) := hs
      obtain ⟨o1, o2, o3⟩ := ok
      obtain ⟨zx, gzx, ezx, _⟩ := mm.get o1
      obtain ⟨zy, gzy, ezy, _⟩ := mm.get o2
      walk_at "x"
      refine x_caseNo (st_of h1) (Nat.ne_of_beq_eq_false rfl) ?_
      refine x_caseW (st_of h1) rfl (by decide) ?_
      refine x_caseY (st_of h1) rfl ?_
      walk_at "xb"
      refine x_ixL (v := .int zy) (sq_of hm) (atI_nat (by rw [List.getElem?_map, gzy]; rfl)) ?_
      walk_at "x"
      refine ⟨by show 2 ≤ sizeLine; decide, fun p hp => ?_⟩
      walk_at "x"
      have hm1 := (same_upd (o := .tup [.int (x : Int), .int zy]) hp) _ _ hm
      refine x_ixL (v := .int zx) (sq_of hm1) (atI_nat (by rw [List.getElem?_map, gzx]; rfl)) ?_
      walk_at "x"
      refine ⟨by show 2 ≤ sizeLine; decide, fun p2 hp2 => ?_⟩
      walk_at "x"
      refine ⟨by show 2 ≤ sizeLine; decide, fun l hl => ?_⟩
      have s2 := (same_upd (o := .tup [.int (x : Int), .int zy]) hp).trans (same_upd (o := .tup [.int (y : Int), .int zx]) hp2)
      refine q l [(x, zy), (y, zx)] _ (s2.free hl) (s2.trans (same_upd hl)) ⟨[p, p2], upd_same, rfl, fun i w b e1 e2 => ?_⟩ ?_ (Nat.le_of_ble_eq_true rfl) (fun w hw => by
        have e : w = (x, zy) ∨ w = (y, zx) := by simpa using hw
        rcases e with rfl | rfl
        · exact o1
        · exact o2)
      · have hpl : (upd (upd H p (.tup [.int (x : Int), .int zy])) p2 (.tup [.int (y : Int), .int zx])) p = some (.tup [.int (x : Int), .int zy]) := same_upd hp2 _ _ upd_same
        match i, e1, e2 with
        | 0, e1, e2 =>
          cases e1
          cases e2
          exact same_upd hl _ _ hpl
        | 1, e1, e2 =>
          cases e1
          cases e2
          exact same_upd hl _ _ upd_same
        | i + 2, e1, _ => simp at e1
      · show (mv.set x zy).set y zx = (mv.set x (mv.getD y 0)).set y (mv.getD x 0)
        rw [ezx, ezy]
    | tab t g tb x y =>
      obtain ⟨o, h1, as, ht1, ht2, ht3⟩ := hs
      obtain ⟨o1, o2, o3, o4, o5, o6, o7, o8, o9, o10⟩ := ok
      obtain ⟨z, gz, ez, z0, z1⟩ := mm.get o1
      obtain ⟨zx, gzx, ezx, zx0, zx1⟩ := mm.get o2
      obtain ⟨zy, gzy, ezy, zy0, zy1⟩ := mm.get o3
      walk_at "x"
      refine x_caseNo (st_of h1) (Nat.ne_of_beq_eq_false rfl) ?_
      refine x_caseNo (st_of h1) (Nat.ne_of_beq_eq_false rfl) ?_
      refine x_caseNo (st_of h1) (Nat.ne_of_beq_eq_false rfl) ?_
      refine x_caseY (st_of h1) rfl ?_
      walk_at "xb"
      refine x_ixL (v := .int zx) (sq_of hm) (atI_nat (by rw [List.getElem?_map, gzx]; rfl)) ?_
      walk_at "x"
      refine x_ixL (v := .int zy) (sq_of hm) (atI_nat (by rw [List.getElem?_map, gzy]; rfl)) ?_
      walk_at "x"
      refine ⟨o, m, zx, zy, tb, rfl, ⟨as, st_of ht1, ht2, fun i r b e1 e2 => st_of (ht3 i r b e1 e2)⟩, o8, o9, o10, m9, zx0, zx1, zy0, zy1, fun v H1 hv v0 v1 s1 => ?_⟩
      have ev := hv.uniq o10 o8.le (ItpV.ok o10 o8.le)
      walk_at "x"
      refine x_ixL (v := .int z) (sq_of (s1 _ _ hm)) (atI_nat (by rw [List.getElem?_map, gz]; rfl)) ?_
      walk_at "x"
      refine ⟨by show 2 ≤ sizeLine; decide, fun p hp => ?_⟩
      walk_at "x"
      refine ⟨by show 1 ≤ sizeLine; decide, fun l hl => ?_⟩
      obtain ⟨sm, ch⟩ := ch_one hp hl
      refine q l _ _ (s1.free ((same_upd hp).free hl)) (s1.trans sm) ch ?_ (Nat.le_of_ble_eq_true rfl) (fun w hw => by rw [List.mem_singleton.mp hw]; exact o1)
      show mv.set t ((z + g * v) % m) = mv.set t ((mv.getD t 0 + g * ItpV m tb (mv.getD x 0) (mv.getD y 0)) % m)
      rw [ez, ezx, ezy, ev]


end
end Br
namespace Br
open PySem PySem.Spec PyProof.Rows L2
local macro_rules | `(tactic| walk_at "x1") => `(tactic| (with_reducible first
  | refine Br.x_seq ?_ | refine Br.x_set ?_ | refine Br.x_asg ?_ | refine Br.x_next ?_ | refine Br.x_ret ?_ | refine Br.x_retN ?_ | refine Br.x_drop ?_ | refine Br.x_if ?_ | refine Br.x_brk ?_ | refine Br.x_cont ?_
  | refine Br.x_c ?_ | refine Br.x_op ?_ | refine Br.x_un ?_ | refine Br.x_I0 ?_ | refine Br.x_U ?_ | refine Br.x_EqI ?_ | refine Br.x_NeI ?_ | refine Br.x_EqB ?_ | refine Br.x_iN ?_ | refine Br.x_int1 ?_ | refine Br.x_min2 ?_ | refine Br.x_max2 ?_ | refine Br.x_nN ?_ | refine Br.x_ifE ?_
  | refine Br.x_test (b := ()) ?_ | refine Br.x_tB ?_ | refine Br.x_bl ?_ | refine Br.x_and ?_ | refine Br.x_or ?_ | refine Br.x_not ?_ | refine Br.x_andV ?_ | refine Br.x_orV ?_ | refine Br.x_notV ?_ | refine Br.x_blP ?_
  | refine Br.x_nil ?_ | refine Br.x_cons ?_ | refine Br.x_call ?_ | refine Br.x_CB ?_ | refine Br.x_BM ?_ | refine Br.x_tup ?_ | refine Br.x_lst ?_ | refine Br.x_chain ?_ | refine Br.x_par ?_ | refine Br.x_gSub ?_ | refine Br.x_gName ?_ | refine Br.x_fld ?_ | refine Br.x_fldS ?_ | refine Br.x_match ?_ | refine Br.x_else ?_ | refine Br.x_noCase ?_))
local macro_rules | `(tactic| walk_at "xv") => `(tactic| ((with_reducible refine' Br.x_var ?hvar ?_); (case hvar => rfl)))
local macro_rules | `(tactic| walk_at "xd") => `(tactic| (dsimp only [List.set_cons_zero, List.set_cons_succ, List.cons_append, List.nil_append, List.append_nil]))
local macro_rules | `(tactic| walk_at "xi") => `(tactic| ((with_reducible refine Br.x_I ?hside ?_); (case hside => first | exact Br.mul_r (by decide) (by decide) | exact Br.mul_l (by decide) (by decide) | exact Br.mul_l (by omega) (by omega) | exact Br.mul_r (by omega) (by omega) | (show (0 : Int) < _; first | decide | omega) | exact ⟨by decide, by decide⟩ | exact ⟨by omega, by omega⟩ | exact ⟨by decide, by decide, by decide⟩)))
local macro_rules | `(tactic| walk_at "x") => `(tactic| (repeat (first | walk_at "x1" | walk_at "xv" | walk_at "xi" | walk_at "xd")))
local macro_rules | `(tactic| walk_at "start") => `(tactic| (simp only [L2.start, List.map_cons, List.map_nil, List.length_cons, List.length_nil, Nat.reduceAdd, Nat.reduceSub, List.replicate, List.cons_append, List.nil_append, List.append_nil]))
local macro_rules | `(tactic| walk_at "isi") => `(tactic| first
  | refine Br.x_isi (b := true) (.base (.int _)) (by decide +kernel) ?_ | refine Br.x_isi (b := false) (.base (.int _)) (by decide +kernel) ?_
  | refine Br.x_isi (b := true) (.base (.bl _)) (by decide +kernel) ?_ | refine Br.x_isi (b := false) (.base (.bl _)) (by decide +kernel) ?_
  | refine Br.x_isi (b := false) (.base .non) (by decide +kernel) ?_
  | refine Br.x_isi (b := true) (.base (.str _)) (by decide +kernel) ?_ | refine Br.x_isi (b := false) (.base (.str _)) (by decide +kernel) ?_
  | refine Br.x_isi (b := true) (.base (.tup (by assumption))) (by decide +kernel) ?_ | refine Br.x_isi (b := false) (.base (.tup (by assumption))) (by decide +kernel) ?_
  | refine Br.x_isi (b := true) (.base (.lst (by assumption))) (by decide +kernel) ?_ | refine Br.x_isi (b := false) (.base (.lst (by assumption))) (by decide +kernel) ?_)
local macro_rules | `(tactic| walk_at "f") => `(tactic| (refine L2.iteF ?_; walk_at "x"))
local macro_rules | `(tactic| walk_at "t") => `(tactic| (refine L2.iteT ?_; walk_at "x"))
local macro_rules | `(tactic| walk_at "is") => `(tactic| (walk_at "isi"; walk_at "x"))
local macro_rules | `(tactic| walk_at "xb") => `(tactic| (simp only [Br.bindS, List.set_cons_zero, List.set_cons_succ]; walk_at "x"))

section
variable {P : Program} {w : World} {K : PySem.W.Frag} {mg : Str → Option Value} {base : Heap}

open Br.F
theorem prime_I {m : Nat} (h : IsPrime m) : PrimeI (m : Int) := by
  refine ⟨by have := h.1; omega, fun d h2 hd he => ?_⟩
  obtain ⟨n, rfl⟩ : ∃ n : Nat, d = (n : Int) := ⟨d.toNat, by omega⟩
  have hdv : n ∣ m := Int.ofNat_dvd.mp (Int.dvd_of_emod_eq_zero he)
  rcases h.2 n hdv with e | e
  · omega
  · subst e
    have : (2 : Int) * n ≤ n * n := Int.mul_le_mul_of_nonneg_right h2 (by omega)
    omega

def sp_check_sizes (K : PySem.W.Frag) : Sp := fun vs H Q _ => ∃ (m c i : Nat), vs = [.int (m : Int), .int (c : Int), .int (i : Int)] ∧ 2 ≤ m ∧ m ≤ 1000000000 ∧ 1 ≤ c ∧ c ≤ 60 ∧ i ≤ 60 ∧ Q .non H
theorem ok_check_sizes (T : Txt K mg) : FnOk P w K mg base CX0 3 T.a_check_sizes T.fd_check_sizes ["modulus", "cells", "inputs"] (sp_check_sizes K) := by
  refine T.F_check_sizes.ok sc_check_sizes (fun vs H Q E h => ?_) (fun cdv A outer s H vs Q E hr h => ?_)
  · obtain ⟨m, c, i, rfl, _⟩ := h
    rfl
  · obtain ⟨m, c, i, rfl, m2, m9, c1, c60, i60, q⟩ := h
    refine ⟨_, (pss_cons (ps_if (pt_not (pt_val (pe_call (ok_is_modulus T) hr (by rfl) T.g_is_modulus T.F_is_modulus.kp T.b_is_modulus .nil pass0 (pa_cons (pv 0) pa_nil))))
      (pss_one ps_never)
      pss_nil)
      (pss_cons (ps_if (PW.pt (pw_or (pt_not (pt_val (pe_call (ok_is_below T) (hr.mono (by decide)) (by rfl) T.g_is_below T.F_is_below.kp T.b_is_below .nil pass0 (pa_cons (pv 1) (pa_cons (pe_op op_add (pe_glob (v := .int 60) (by rfl) T.c_MOST_CELLS ⟨_, rfl⟩) pe_int) pa_nil))))) (pw_or1 (pt_cmpR op_eq (pv 1) pe_int (nomark _)))))
      (pss_one ps_never)
      pss_nil)
      (pss_one (ps_if (pt_not (pt_val (pe_call (ok_is_below T) (hr.mono (by decide)) (by rfl) T.g_is_below T.F_is_below.kp T.b_is_below .nil pass0 (pa_cons (pv 2) (pa_cons (pe_op op_add (pe_glob (v := .int 60) (by rfl) T.c_MOST_INPUTS ⟨_, rfl⟩) pe_int) pa_nil)))))
      (pss_one ps_never)
      pss_nil)))), ?_⟩
    walk_at "start"
    walk_at "x"
    refine ⟨_, rfl, .int _, ?_⟩
    have e : (isB (.int (m : Int)) 1000000001 && !isB (.int (m : Int)) 2) = true := by
      rw [isB_int (by omega) (by omega)]
      show (true && !(decide (0 ≤ (m : Int)) && decide ((m : Int) < 2))) = true
      rw [decide_eq_false (show ¬ (m : Int) < 2 by omega), Bool.and_false]; rfl
    rw [e]
    walk_at "x"
    walk_at "f"
    refine ⟨_, _, rfl, .int _, ?_⟩
    rw [isB_int (by omega) (by omega)]
    walk_at "x"
    walk_at "f"
    rw [decide_eq_false (show ¬ (c : Int) = 0 by omega)]
    walk_at "f"
    refine ⟨_, _, rfl, .int _, ?_⟩
    rw [isB_int (by omega) (by omega)]
    walk_at "x"
    walk_at "f"
    exact q


def stW : Stp → Str
  | .add .. => "add"
  | .scale .. => "scale"
  | .swap .. => "swap"
  | .tab .. => "table"
def isT : Stp → Bool
  | .tab .. => true
  | _ => false
theorem StpAt.head {H : Hp} {a : Addr} : ∀ {s : Stp}, StpAt H a s → ∃ ys, H a = some (.tup (.str (stW s) :: ys))
  | .add .., h => by obtain ⟨f, as, h1, _⟩ := h; exact ⟨_, h1⟩
  | .scale .., h => ⟨_, h⟩
  | .swap .., h => ⟨_, h⟩
  | .tab .., h => by obtain ⟨c, h1, _⟩ := h; exact ⟨_, h1⟩
theorem stW_tab (s : Stp) : decide (V.str (stW s) = V.str "table") = isT s := by
  cases s with
  | add => exact decide_eq_false (fun e => absurd (show ("add" : Str) = "table" from V.str.inj e) (by decide))
  | scale => exact decide_eq_false (fun e => absurd (show ("scale" : Str) = "table" from V.str.inj e) (by decide))
  | swap => exact decide_eq_false (fun e => absurd (show ("swap" : Str) = "table" from V.str.inj e) (by decide))
  | tab => exact decide_eq_true rfl
def sp_check_steps (K : PySem.W.Frag) : Sp := fun vs H Q _ => ∃ (L : Addr) (as : List Addr) (ss : List Stp) (m c i : Nat), vs = [.ref L, .int (m : Int), .int (c : Int), .int (i : Int)] ∧ H L = some (.lst (as.map V.ref)) ∧ StpsAt H as ss ∧ ss.length ≤ 20000 ∧ (∀ s, s ∈ ss → StpOk m c i s) ∧ 2 ≤ m ∧ m ≤ 1000000000 ∧
  ∀ H', Same H H' → Q .non H'
theorem ok_check_steps (T : Txt K mg) : FnOk P w K mg base CX0 5 T.a_check_steps T.fd_check_steps ["steps", "modulus", "cells", "inputs"] (sp_check_steps K) := by
  refine T.F_check_steps.ok sc_check_steps (fun vs H Q E h => ?_) (fun cdv A outer s H vs Q E hr h => ?_)
  · obtain ⟨L, as, ss, m, c, i, rfl, _⟩ := h
    rfl
  · obtain ⟨L, as, ss, m, c, i, rfl, hL, hA, hn, ok, m2, m9, q⟩ := h
    have hal := hA.1
    refine ⟨_, (pss_cons (ps_if (PW.pt (pw_or (pt_not (pt_val (pe_callB (id := "isinstance") (r := rIsi K) call_isi (by rfl) T.m_isinstance (by decide +kernel) (pa_cons (pv 0) (pa_cons (pe_bltn (v := .ty "list") (by rfl) T.m_list (by decide +kernel) rfl) pa_nil))))) (pw_or1 (pt_cmpR op_gt (pe_callB (id := "len") (r := rLen K) cr_len (by rfl) T.m_len PySem.boot_len (pa_cons (pv 0) pa_nil)) (pe_glob (v := .int 20000) (by rfl) T.c_MOST_STEPS ⟨_, rfl⟩) (nomark _)))))
      (pss_one ps_never)
      pss_nil)
      (pss_cons (ps_for PassesOwn.never rfl (pi_enum (by rfl) T.m_enumerate (pa_cons (pv 0) pa_nil)) (pg_tup rfl (pgs_cons (pg_name (i := 4) sc_check_steps.nd rfl (Or.inl rfl)) (pgs_cons (pg_name (i := 5) sc_check_steps.nd rfl (Or.inl rfl)) pgs_nil)))
      (pss_one (ps_if (pt_not (pt_val (pe_call (ok_is_step T) hr (by rfl) T.g_is_step T.F_is_step.kp T.b_is_step .nil pass0 (pa_cons (pv 5) (pa_cons (pv 1) (pa_cons (pv 2) (pa_cons (pv 3) pa_nil)))))))
      (pss_one ps_never)
      pss_nil)))
      (pss_one (ps_if (PW.pt (pw_and (pt_val (pe_callB (id := "any") (r := rAny K) (cr_any rfl) (by rfl) T.m_any (by decide +kernel) (pa_cons (pe_lc (own := [("step", 5)]) (g := gName 5) (tt := tYes) rfl sc_check_steps.nd (pi_list (pv 0)) (blkOk_by (N := N_check_steps) (sc := defScope s_check_steps) (by decide +kernel)) (fun _ _ _ _ _ => (pg_name (i := 5) sc_check_steps.nd rfl (Or.inl rfl))) (fun _ _ _ _ _ => pts_nil) (fun _ _ _ _ _ => (pe_cmpR op_eq (pe_ix (r := rIxT K) ix_tup (pv 5) pe_int (fun _ _ => rfl)) pe_str (nomark _)))) pa_nil))) (pw_and1 (pt_not (pt_val (pe_call (ok_is_prime T) (hr.mono (by decide)) (by rfl) T.g_is_prime T.F_is_prime.kp T.b_is_prime .nil pass0 (pa_cons (pv 1) pa_nil)))))))
      (pss_one ps_never)
      pss_nil)))), ?_⟩
    walk_at "start"
    walk_at "x"
    walk_at "is"
    walk_at "f"
    refine x_len (sq_of hL) ?_
    walk_at "x"
    rw [List.length_map, hal, decide_eq_false (show ¬ (20000 : Int) < (ss.length : Int) by omega)]
    walk_at "f"
    refine x_forI (J := Ite K L) (n := (as.map V.ref).length) (G := fun H => SqL K H L (as.map V.ref)) (fun R r => by unfold iEnum; walk_at "x"; exact ⟨L, _, rfl, sq_of hL, r⟩) walk_enum (fun k σ' H' => Same H H' ∧ ∃ v4 v5, σ' = [some (.ref L), some (.int (m : Int)), some (.int (c : Int)), some (.int (i : Int)), v4, v5])
      ⟨Same.refl _, _, _, rfl⟩ (fun k σ' H' _ z => sq_of (z.1 _ _ hL)) ?_ ?_
    · rintro k _ σ' H' H2 hk ⟨hs, v4, v5, rfl⟩ ⟨o, x, y, rfl, ho, rfl, gx, gy⟩
      cases gx
      obtain ⟨b, hb, rfl⟩ := map_getR gy
      obtain ⟨s, hs1, hs2⟩ := hA.get hb
      have s3 : Same H (upd H' o (.tup [.int (k : Int), .ref b])) := sput hs (sfree hs ho)
      refine x_gTup2 (st_of upd_same) ?_
      walk_at "x"
      refine ⟨b, s, m, c, i, rfl, hs2.tups (Tups.same s3), ok s (List.mem_of_getElem? hs1), m2, fun H4 s4 => ?_⟩
      walk_at "x"
      walk_at "f"
      exact ⟨s3.trans s4, _, _, rfl⟩
    · rintro σ' H' ⟨hs, v4, v5, rfl⟩
      have hL' := hs _ _ hL
      walk_at "x"
      refine x_lcB (xs := as.map V.ref) (fun k => match ss[k]? with | some s => isT s | none => false) (J := Itl K L) (G := fun H => SqL K H L (as.map V.ref)) (fun R r => ⟨_, rfl, L, rfl, ⟨_, sq_of hL'⟩, r⟩) walk_list (by rw [List.length_map]; omega) (fun H2 s => sq_of (s _ _ hL')) (fun x => rfl) ?_ ?_
      · intro k x H2 s2 hx R hR
        obtain ⟨b, hb, rfl⟩ := map_getR hx
        obtain ⟨s, hs1, hs2⟩ := hA.get hb
        obtain ⟨ys, hy⟩ := (hs2.tups (Tups.same (hs.trans s2))).head
        walk_at "x"
        refine x_ixT (v := .str (stW s)) (st_of hy) (atI_nat (j := 0) rfl) ?_
        walk_at "x"
        refine x_Eq rfl ?_
        rw [stW_tab]
        have e : (match ss[k]? with | some s => isT s | none => false) = isT s := by rw [hs1]
        rw [← e]
        exact hR H2 (Same.refl _)
      · intro p H2 hp s2 hP
        walk_at "x"
        refine x_any hP ?_
        walk_at "x"
        refine x_iteB (fun hb => ?_) (fun hb => ?_)
        · have hm : IsPrime m := by
            obtain ⟨b, hb1, hb2⟩ := List.any_eq_true.mp hb
            obtain ⟨k, hk, rfl⟩ := List.mem_map.mp hb1
            have hk := List.mem_range.mp hk
            rw [List.length_map, hal] at hk
            have e : (match ss[k]? with | some s => isT s | none => false) = true := hb2
            rw [List.getElem?_eq_getElem hk] at e
            have okk := ok ss[k] (List.getElem_mem hk)
            generalize ss[k] = s at e okk
            cases s with
            | tab t g tb x y => exact okk.2.2.2.2.2.2.2.2.2
            | add => cases e
            | scale => cases e
            | swap => cases e
          walk_at "x"
          refine ⟨_, rfl, by omega, by omega, fun b hbp => ?_⟩
          walk_at "x"
          have e : b = true := hbp.mpr (prime_I hm)
          subst e
          walk_at "f"
          exact q H2 (hs.trans s2)
        · walk_at "f"
          exact q H2 (hs.trans s2)

/-! ### programs -/
structure PC (K : PySem.W.Frag) (C : Addr) : Prop where
  cl : Cls K C
  m : NoAttr K C "modulus"
  c : NoAttr K C "cells"
  i : NoAttr K C "inputs"
  s : NoAttr K C "steps"
def progF (m c i : Int) (L : Addr) : List (Str × V) := [("modulus", V.int m), ("cells", V.int c), ("inputs", V.int i), ("steps", V.ref L)]
theorem progF_m {m c i : Int} {L : Addr} : (progF m c i L).lookup ("modulus" : Str) = some (V.int m) := rfl
theorem progF_c {m c i : Int} {L : Addr} : (progF m c i L).lookup ("cells" : Str) = some (V.int c) := rfl
theorem progF_i {m c i : Int} {L : Addr} : (progF m c i L).lookup ("inputs" : Str) = some (V.int i) := rfl
theorem progF_s {m c i : Int} {L : Addr} : (progF m c i L).lookup ("steps" : Str) = some (V.ref L) := rfl
theorem progF_mk {m c i : Int} {L : Addr} : putF "steps" (V.ref L) (putF "inputs" (V.int i) (putF "cells" (V.int c) (putF "modulus" (V.int m) []))) = progF m c i L := rfl
/-- a program at p: its steps' list at L -/
structure PrAt (K : PySem.W.Frag) (C : Addr) (H : Hp) (p L : Addr) (as : List Addr) (ss : List Stp) (m c i : Nat) : Prop where
  ob : ∃ dx, H p = some (.ins C dx (progF m c i L)) ∧ PC K C
  lst : H L = some (.lst (as.map V.ref))
  st : StpsAt H as ss
theorem PrAt.same {K : PySem.W.Frag} {C : Addr} {H H' : Hp} {p L : Addr} {as : List Addr} {ss : List Stp} {m c i : Nat} (h : PrAt K C H p L as ss m c i) (s : Same H H') : PrAt K C H' p L as ss m c i := by
  obtain ⟨dx, h1, h2⟩ := h.ob
  exact ⟨⟨dx, s _ _ h1, h2⟩, s _ _ h.lst, h.st.tups (Tups.same s)⟩
structure PrOk (ss : List Stp) (m c i : Nat) : Prop where
  m2 : 2 ≤ m
  m9 : m ≤ 1000000000
  c1 : 1 ≤ c
  c60 : c ≤ 60
  i60 : i ≤ 60
  len : ss.length ≤ 20000
  ok : ∀ s, s ∈ ss → StpOk m c i s

def sp_Program___init (K : PySem.W.Frag) : Sp := fun vs H Q _ => ∃ (p C dx L : Addr) (as : List Addr) (ss : List Stp) (m c i : Nat), vs = [.ref p, .int (m : Int), .int (c : Int), .int (i : Int), .ref L] ∧ H p = some (.ins C dx []) ∧ PC K C ∧ H L = some (.lst (as.map V.ref)) ∧ StpsAt H as ss ∧ PrOk ss m c i ∧
  ∀ (L' : Addr) (H' : Hp), H L' = none → (∀ b o, H b = some o → b ≠ p → H' b = some o) → PrAt K C H' p L' as ss m c i → Q .non H'
theorem ok_Program___init (T : Txt K mg) : FnOk P w K mg base CX0 6 T.a_Program___init T.fd_Program___init ["self", "modulus", "cells", "inputs", "steps"] (sp_Program___init K) := by
  refine T.F_Program___init.ok sc_Program___init (fun vs H Q E h => ?_) (fun cdv A outer s H vs Q E hr h => ?_)
  · obtain ⟨p, C, dx, L, as, ss, m, c, i, rfl, _⟩ := h
    rfl
  · obtain ⟨p, C, dx, L, as, ss, m, c, i, rfl, hp, hC, hL, hA, ok, q⟩ := h
    refine ⟨_, (pss_cons (ps_expr (pe_call (ok_check_sizes T) (hr.mono (by decide)) (by rfl) T.g_check_sizes T.F_check_sizes.kp T.b_check_sizes .nil pass0 (pa_cons (pv 1) (pa_cons (pv 2) (pa_cons (pv 3) pa_nil)))))
      (pss_cons (ps_expr (pe_call (ok_check_steps T) hr (by rfl) T.g_check_steps T.F_check_steps.kp T.b_check_steps .nil pass0 (pa_cons (pv 4) (pa_cons (pv 1) (pa_cons (pv 2) (pa_cons (pv 3) pa_nil))))))
      (pss_cons (ps_fld (pv 0) (pv 1) rfl)
      (pss_cons (ps_fld (pv 0) (pv 2) rfl)
      (pss_cons (ps_fld (pv 0) (pv 3) rfl)
      (pss_one (ps_fld (pv 0) (pe_callTy (T := "list") (r := rListOf K) cr_list_of (by rfl) T.m_list (by decide +kernel) (pa_cons (pv 4) pa_nil)) rfl))))))), ?_⟩
    walk_at "start"
    walk_at "x"
    refine ⟨m, c, i, rfl, ok.m2, ok.m9, ok.c1, ok.c60, ok.i60, ?_⟩
    walk_at "x"
    refine ⟨L, as, ss, m, c, i, rfl, hL, hA, ok.len, ok.ok, ok.m2, ok.m9, fun H1 s1 => ?_⟩
    have hp1 := s1 _ _ hp
    have hL1 := s1 _ _ hL
    walk_at "x"
    refine ⟨p, C, dx, _, rfl, hp1, hC.cl, hC.m, by decide, ?_⟩
    walk_at "x"
    refine ⟨p, C, dx, _, rfl, upd_same, hC.cl, hC.c, by show 1 < 1000; decide, ?_⟩
    walk_at "x"
    refine ⟨p, C, dx, _, rfl, upd_same, hC.cl, hC.i, by show 2 < 1000; decide, ?_⟩
    walk_at "x"
    have hpL : L ≠ p := ne_of hL1 hp1 (by intro z; cases z)
    refine x_listL (sq_of (by rw [upd_ne hpL, upd_ne hpL, upd_ne hpL]; exact hL1)) fun L' hL' => ?_
    have hpL' : p ≠ L' := ne_of_none upd_same hL'
    have hL'1 : H1 L' = none := by
      rw [upd_ne hpL'.symm, upd_ne hpL'.symm, upd_ne hpL'.symm] at hL'
      exact hL'
    walk_at "x"
    refine ⟨p, C, dx, _, rfl, by rw [upd_ne hpL', upd_same], hC.cl, hC.s, by show 3 < 1000; decide, ?_⟩
    rw [progF_mk]
    generalize hU : upd (upd _ _ _) _ _ = U
    have keep : ∀ b o, H b = some o → b ≠ p → U b = some o := fun b o e hb => by
      rw [← hU, upd_ne hb, upd_ne (ne_of_none (s1 _ _ e) hL'1), upd_ne hb, upd_ne hb, upd_ne hb]
      exact s1 _ _ e
    refine q L' U (s1.free hL'1) keep ⟨⟨dx, by rw [← hU]; exact upd_same, hC⟩, by rw [← hU, upd_ne hpL'.symm, upd_same], hA.tups fun b xs e => keep b _ e (ne_of e hp (by intro z; cases z))⟩


end
end Br
namespace Br
open PySem PySem.Spec PyProof.Rows L2
local macro_rules | `(tactic| walk_at "x1") => `(tactic| (with_reducible first
  | refine Br.x_seq ?_ | refine Br.x_set ?_ | refine Br.x_asg ?_ | refine Br.x_next ?_ | refine Br.x_ret ?_ | refine Br.x_retN ?_ | refine Br.x_drop ?_ | refine Br.x_if ?_ | refine Br.x_brk ?_ | refine Br.x_cont ?_
  | refine Br.x_c ?_ | refine Br.x_op ?_ | refine Br.x_un ?_ | refine Br.x_I0 ?_ | refine Br.x_U ?_ | refine Br.x_EqI ?_ | refine Br.x_NeI ?_ | refine Br.x_EqB ?_ | refine Br.x_iN ?_ | refine Br.x_int1 ?_ | refine Br.x_min2 ?_ | refine Br.x_max2 ?_ | refine Br.x_nN ?_ | refine Br.x_ifE ?_
  | refine Br.x_test (b := ()) ?_ | refine Br.x_tB ?_ | refine Br.x_bl ?_ | refine Br.x_and ?_ | refine Br.x_or ?_ | refine Br.x_not ?_ | refine Br.x_andV ?_ | refine Br.x_orV ?_ | refine Br.x_notV ?_ | refine Br.x_blP ?_
  | refine Br.x_nil ?_ | refine Br.x_cons ?_ | refine Br.x_call ?_ | refine Br.x_CB ?_ | refine Br.x_BM ?_ | refine Br.x_tup ?_ | refine Br.x_lst ?_ | refine Br.x_chain ?_ | refine Br.x_par ?_ | refine Br.x_gSub ?_ | refine Br.x_gName ?_ | refine Br.x_fld ?_ | refine Br.x_fldS ?_ | refine Br.x_match ?_ | refine Br.x_else ?_ | refine Br.x_noCase ?_))
local macro_rules | `(tactic| walk_at "xv") => `(tactic| ((with_reducible refine' Br.x_var ?hvar ?_); (case hvar => rfl)))
local macro_rules | `(tactic| walk_at "xd") => `(tactic| (dsimp only [List.set_cons_zero, List.set_cons_succ, List.cons_append, List.nil_append, List.append_nil]))
local macro_rules | `(tactic| walk_at "xi") => `(tactic| ((with_reducible refine Br.x_I ?hside ?_); (case hside => first | exact Br.mul_r (by decide) (by decide) | exact Br.mul_l (by decide) (by decide) | exact Br.mul_l (by omega) (by omega) | exact Br.mul_r (by omega) (by omega) | (show (0 : Int) < _; first | decide | omega) | exact ⟨by decide, by decide⟩ | exact ⟨by omega, by omega⟩ | exact ⟨by decide, by decide, by decide⟩)))
local macro_rules | `(tactic| walk_at "x") => `(tactic| (repeat (first | walk_at "x1" | walk_at "xv" | walk_at "xi" | walk_at "xd")))
local macro_rules | `(tactic| walk_at "start") => `(tactic| (simp only [L2.start, List.map_cons, List.map_nil, List.length_cons, List.length_nil, Nat.reduceAdd, Nat.reduceSub, List.replicate, List.cons_append, List.nil_append, List.append_nil]))
local macro_rules | `(tactic| walk_at "isi") => `(tactic| first
  | refine Br.x_isi (b := true) (.base (.int _)) (by decide +kernel) ?_ | refine Br.x_isi (b := false) (.base (.int _)) (by decide +kernel) ?_
  | refine Br.x_isi (b := true) (.base (.bl _)) (by decide +kernel) ?_ | refine Br.x_isi (b := false) (.base (.bl _)) (by decide +kernel) ?_
  | refine Br.x_isi (b := false) (.base .non) (by decide +kernel) ?_
  | refine Br.x_isi (b := true) (.base (.str _)) (by decide +kernel) ?_ | refine Br.x_isi (b := false) (.base (.str _)) (by decide +kernel) ?_
  | refine Br.x_isi (b := true) (.base (.tup (by assumption))) (by decide +kernel) ?_ | refine Br.x_isi (b := false) (.base (.tup (by assumption))) (by decide +kernel) ?_
  | refine Br.x_isi (b := true) (.base (.lst (by assumption))) (by decide +kernel) ?_ | refine Br.x_isi (b := false) (.base (.lst (by assumption))) (by decide +kernel) ?_)
local macro_rules | `(tactic| walk_at "f") => `(tactic| (refine L2.iteF ?_; walk_at "x"))
local macro_rules | `(tactic| walk_at "t") => `(tactic| (refine L2.iteT ?_; walk_at "x"))
local macro_rules | `(tactic| walk_at "is") => `(tactic| (walk_at "isi"; walk_at "x"))
local macro_rules | `(tactic| walk_at "xb") => `(tactic| (simp only [Br.bindS, List.set_cons_zero, List.set_cons_succ]; walk_at "x"))

section
variable {P : Program} {w : World} {K : PySem.W.Frag} {mg : Str → Option Value} {base : Heap}

theorem Mem.odd {m n : Nat} {xs : List Int} (h : Mem m n xs) : (decide (((xs.map V.int).length : Int) = (n : Int)) && (xs.map V.int).all fun x => isB x (m : Int)) = true := by
  rw [List.length_map, h.len, decide_eq_true rfl, Bool.true_and, List.all_eq_true]
  intro x hx
  obtain ⟨z, hz, rfl⟩ := List.mem_map.mp hx
  exact isB_int (h.rg z hz).1 (h.rg z hz).2
theorem applyC_snoc {cs : List (Nat × Int)} {x : Nat × Int} {mv : List Int} : applyC (cs ++ [x]) mv = (applyC cs mv).set x.1 x.2 := by
  unfold applyC
  rw [List.foldl_append]
  rfl
theorem applyC_len {cs : List (Nat × Int)} : ∀ {mv : List Int}, (applyC cs mv).length = mv.length := by
  induction cs with
  | nil => intro mv; rfl
  | cons x cs ih => intro mv; exact ih.trans (List.length_set ..)
theorem map_set {xs : List Int} {i : Nat} {z : Int} : (xs.map V.int).set i (.int z) = (xs.set i z).map V.int := by rw [List.map_set]


def sp_performed (K : PySem.W.Frag) : Sp := fun vs H Q _ => ∃ (L mo io : Addr) (as : List Addr) (ss : List Stp) (m c i : Nat) (mv iv : List Int), vs = [.ref L, .ref mo, .ref io, .int (m : Int)] ∧ SqL K H L (as.map V.ref) ∧ StpsAt H as ss ∧ PrOk ss m c i ∧ SqL K H mo (mv.map V.int) ∧ H io = some (.lst (iv.map V.int)) ∧ Mem m c mv ∧ Mem m i iv ∧
  ∀ l H', H l = none → Same H H' → H' l = some (.lst ((runF m iv ss mv).map V.int)) → Q (.ref l) H'
theorem ok_performed (T : Txt K mg) : FnOk P w K mg base CX0 5 T.a_performed T.fd_performed ["steps", "memory", "given", "modulus"] (sp_performed K) := by
  refine T.F_performed.ok sc_performed (fun vs H Q E h => ?_) (fun cdv A outer s H vs Q E hr h => ?_)
  · obtain ⟨L, mo, io, as, ss, m, c, i, mv, iv, rfl, _⟩ := h
    rfl
  · obtain ⟨L, mo, io, as, ss, m, c, i, mv, iv, rfl, hL, hst, ok, hm, hi, mm, mi, q⟩ := h
    have hm1 : 1 ≤ m := Nat.le_trans (by decide) ok.m2
    have m2 := ok.m2
    have m9 := ok.m9
    have c60 := ok.c60
    have i60 := ok.i60
    refine ⟨_, (pss_cons (ps_set (i := 4) sc_performed.nd rfl (.inl rfl) (pe_callTy (T := "list") (r := rListOf K) cr_list_of (by rfl) T.m_list (by decide +kernel) (pa_cons (pv 1) pa_nil)))
      (pss_cons (ps_for PassesOwn.never rfl (pi_list (pv 0)) (pg_name (i := 5) sc_performed.nd rfl (Or.inl rfl))
      (pss_cons (ps_set (i := 6) sc_performed.nd rfl (.inl rfl) (pe_call (ok_changes T) hr (by rfl) T.g_changes T.F_changes.kp T.b_changes .nil pass0 (pa_cons (pv 5) (pa_cons (pv 4) (pa_cons (pv 2) (pa_cons (pv 3) pa_nil))))))
      (pss_one (ps_for PassesOwn.never rfl (pi_list (pv 6)) (pg_tup rfl (pgs_cons (pg_name (i := 7) sc_performed.nd rfl (Or.inl rfl)) (pgs_cons (pg_name (i := 8) sc_performed.nd rfl (Or.inl rfl)) pgs_nil)))
      (pss_one (ps_asg (pv 8) (pg_sub (pv 4) (pv 7) set_list)))))))
      (pss_one (ps_ret (pv 4))))), ?_⟩
    walk_at "start"
    walk_at "x"
    refine x_listL hm fun l hl => ?_
    have hl0 := hl
    have s3 := same_upd (o := .lst (mv.map V.int)) hl
    have hl3 : (upd H l (.lst (mv.map V.int))) l = some (.lst (mv.map V.int)) := upd_same
    generalize upd H l (.lst (mv.map V.int)) = H3 at s3 hl3
    walk_at "x"
    refine x_forL (p := L) (as.map V.ref) (fun k σ' H' => ∃ v4 v5 v6 v7, σ' = [some (.ref L), some (.ref mo), some (.ref io), some (.int (m : Int)), some (.ref l), v4, v5, v6, v7] ∧ Same H H' ∧ H' l = some (.lst ((runF m iv (ss.take k) mv).map V.int)))
      (fun R r => by walk_at "x"; exact r) (s3.seq hL) ⟨_, _, _, _, rfl, s3, hl3⟩ (fun k σ' H' _ z => by obtain ⟨_, _, _, _, _, z, _⟩ := z; exact z.seq hL) ?_ ?_
    · rintro k x σ' H4 hx ⟨v4, v5, v6, v7, rfl, s4, hl4⟩
      obtain ⟨b, hb, rfl⟩ := map_getR hx
      obtain ⟨s, hs1, hs2⟩ := hst.get hb
      have oks := ok.ok s (List.mem_of_getElem? hs1)
      have mr : Mem m c (runF m iv (ss.take k) mv) := runF_mem hm1 mm fun s hs => ok.ok s (List.mem_of_mem_take hs)
      walk_at "x"
      refine ⟨b, l, io, s, c, i, m, _, iv, rfl, hs2.tups (Tups.same s4), oks, hl4, s4 _ _ hi, mr, mi, m2, m9, fun lc cs H5 hlc s5 hch hap hcl hcc => ?_⟩
      have hlc' : lc ≠ l := fun e => by rw [e, hl4] at hlc; cases hlc
      have hl5 := s5 _ _ hl4
      obtain ⟨bs, hb1, hb2, hb3⟩ := hch
      walk_at "x"
      refine x_forL (p := lc) (bs.map V.ref) (fun j σ' H' => ∃ v6 v7, σ' = [some (.ref L), some (.ref mo), some (.ref io), some (.int (m : Int)), some (.ref l), some (.ref b), some (.ref lc), v6, v7] ∧ Keep l H5 H' ∧ H' l = some (.lst ((applyC (cs.take j) (runF m iv (ss.take k) mv)).map V.int)))
        (fun R r => by walk_at "x"; exact r) (sq_of hb1) ⟨_, _, rfl, Keep.refl _ _, hl5⟩ (fun j σ' H' _ z => by obtain ⟨_, _, _, z, _⟩ := z; exact sq_of (z _ _ hb1 hlc')) ?_ ?_
      · rintro j x σ' H6 hx ⟨v6, v7, rfl, k6, hl6⟩
        obtain ⟨o, ho, rfl⟩ := map_getR hx
        have hj : j < cs.length := by
          have := (List.getElem?_eq_some_iff.mp ho).1
          omega
        have gj := List.getElem?_eq_getElem hj
        have hcj := hcc _ (List.getElem_mem hj)
        generalize cs[j] = w at gj hcj
        have h5 := hb3 j w o gj ho
        have h6 := k6 _ _ h5 (ne_of h5 hl5 (by intro z; cases z))
        refine x_gTup2 (st_of h6) ?_
        walk_at "x"
        have hlen : ((applyC (cs.take j) (runF m iv (ss.take k) mv)).map V.int).length = c := by rw [List.length_map, applyC_len, mr.len]
        refine x_subL (k := w.1) hl6 (by rw [hlen]; exact ixN_nat hcj) ?_
        walk_at "x"
        refine ⟨_, _, rfl, k6.trans keep_upd, ?_⟩
        rw [upd_same, map_set, take_snoc gj, applyC_snoc]
      · rintro σ' H6 ⟨v6, v7, rfl, k6, hl6⟩
        refine ⟨_, _, _, _, rfl, same_keep hl0 (s4.trans s5) k6, ?_⟩
        rw [take_snoc hs1, runF_snoc, ← hap, hl6, List.length_map, hb2, List.take_length]
    · rintro σ' H4 ⟨v4, v5, v6, v7, rfl, s4, hl4⟩
      walk_at "x"
      refine q l _ hl0 s4 ?_
      rw [hl4, List.length_map, hst.1, List.take_length]


end
end Br
namespace Br
open PySem PySem.Spec PyProof.Rows L2
local macro_rules | `(tactic| walk_at "x1") => `(tactic| (with_reducible first
  | refine Br.x_seq ?_ | refine Br.x_set ?_ | refine Br.x_asg ?_ | refine Br.x_next ?_ | refine Br.x_ret ?_ | refine Br.x_retN ?_ | refine Br.x_drop ?_ | refine Br.x_if ?_ | refine Br.x_brk ?_ | refine Br.x_cont ?_
  | refine Br.x_c ?_ | refine Br.x_op ?_ | refine Br.x_un ?_ | refine Br.x_I0 ?_ | refine Br.x_U ?_ | refine Br.x_EqI ?_ | refine Br.x_NeI ?_ | refine Br.x_EqB ?_ | refine Br.x_iN ?_ | refine Br.x_int1 ?_ | refine Br.x_min2 ?_ | refine Br.x_max2 ?_ | refine Br.x_nN ?_ | refine Br.x_ifE ?_
  | refine Br.x_test (b := ()) ?_ | refine Br.x_tB ?_ | refine Br.x_bl ?_ | refine Br.x_and ?_ | refine Br.x_or ?_ | refine Br.x_not ?_ | refine Br.x_andV ?_ | refine Br.x_orV ?_ | refine Br.x_notV ?_ | refine Br.x_blP ?_
  | refine Br.x_nil ?_ | refine Br.x_cons ?_ | refine Br.x_call ?_ | refine Br.x_CB ?_ | refine Br.x_BM ?_ | refine Br.x_tup ?_ | refine Br.x_lst ?_ | refine Br.x_chain ?_ | refine Br.x_par ?_ | refine Br.x_gSub ?_ | refine Br.x_gName ?_ | refine Br.x_fld ?_ | refine Br.x_fldS ?_ | refine Br.x_match ?_ | refine Br.x_else ?_ | refine Br.x_noCase ?_))
local macro_rules | `(tactic| walk_at "xv") => `(tactic| ((with_reducible refine' Br.x_var ?hvar ?_); (case hvar => rfl)))
local macro_rules | `(tactic| walk_at "xd") => `(tactic| (dsimp only [List.set_cons_zero, List.set_cons_succ, List.cons_append, List.nil_append, List.append_nil]))
local macro_rules | `(tactic| walk_at "xi") => `(tactic| ((with_reducible refine Br.x_I ?hside ?_); (case hside => first | exact Br.mul_r (by decide) (by decide) | exact Br.mul_l (by decide) (by decide) | exact Br.mul_l (by omega) (by omega) | exact Br.mul_r (by omega) (by omega) | (show (0 : Int) < _; first | decide | omega) | exact ⟨by decide, by decide⟩ | exact ⟨by omega, by omega⟩ | exact ⟨by decide, by decide, by decide⟩)))
local macro_rules | `(tactic| walk_at "x") => `(tactic| (repeat (first | walk_at "x1" | walk_at "xv" | walk_at "xi" | walk_at "xd")))
local macro_rules | `(tactic| walk_at "start") => `(tactic| (simp only [L2.start, List.map_cons, List.map_nil, List.length_cons, List.length_nil, Nat.reduceAdd, Nat.reduceSub, List.replicate, List.cons_append, List.nil_append, List.append_nil]))
local macro_rules | `(tactic| walk_at "isi") => `(tactic| first
  | refine Br.x_isi (b := true) (.base (.int _)) (by decide +kernel) ?_ | refine Br.x_isi (b := false) (.base (.int _)) (by decide +kernel) ?_
  | refine Br.x_isi (b := true) (.base (.bl _)) (by decide +kernel) ?_ | refine Br.x_isi (b := false) (.base (.bl _)) (by decide +kernel) ?_
  | refine Br.x_isi (b := false) (.base .non) (by decide +kernel) ?_
  | refine Br.x_isi (b := true) (.base (.str _)) (by decide +kernel) ?_ | refine Br.x_isi (b := false) (.base (.str _)) (by decide +kernel) ?_
  | refine Br.x_isi (b := true) (.base (.tup (by assumption))) (by decide +kernel) ?_ | refine Br.x_isi (b := false) (.base (.tup (by assumption))) (by decide +kernel) ?_
  | refine Br.x_isi (b := true) (.base (.lst (by assumption))) (by decide +kernel) ?_ | refine Br.x_isi (b := false) (.base (.lst (by assumption))) (by decide +kernel) ?_)
local macro_rules | `(tactic| walk_at "f") => `(tactic| (refine L2.iteF ?_; walk_at "x"))
local macro_rules | `(tactic| walk_at "t") => `(tactic| (refine L2.iteT ?_; walk_at "x"))
local macro_rules | `(tactic| walk_at "is") => `(tactic| (walk_at "isi"; walk_at "x"))
local macro_rules | `(tactic| walk_at "xb") => `(tactic| (simp only [Br.bindS, List.set_cons_zero, List.set_cons_succ]; walk_at "x"))

section
variable {P : Program} {w : World} {K : PySem.W.Frag} {mg : Str → Option Value} {base : Heap}

open Br

/-- whole numbers as values -/
abbrev nV (ns : List Nat) : List V := ns.map fun n => V.int ((n : Nat) : Int)
def sp_grid_points : SpG4 := fun vs H sh n items => ∃ (a : Addr) (ss : List Nat), vs = [.ref a] ∧ H a = some (.lst (nV ss)) ∧ (∀ s ∈ ss, 0 < s) ∧ ss.length ≤ 1000 ∧ sh = [(a, nV ss)] ∧ n = prodL ss ∧ items = fun i => nV (dg ss i)
def HeadG (a : Addr) (ss : List Nat) : Nat → List Addr → L2.St → Hp → Prop := fun i ks σ H => ∃ (p : Addr) (z : Int), ks = [a, p] ∧ p ≠ a ∧ σ = [some (.ref a), some (.ref p), some (.int z)] ∧ H a = some (.lst (nV ss)) ∧ H p = some (.lst (nV (dg ss i))) ∧ (i < prodL ss → 0 ≤ z) ∧ (i = prodL ss → z < 0)
def SlpG (a : Addr) (ss : List Nat) : Nat → List Addr → L2.St → Hp → Prop := fun i ks σ H => ∃ (p : Addr) (z : Int), ks = [a, p] ∧ p ≠ a ∧ σ = [some (.ref a), some (.ref p), some (.int z)] ∧ H a = some (.lst (nV ss)) ∧ H p = some (.lst (nV (dg ss i)))
theorem extk_new {H : Hp} {b : Addr} {u : HO} (h : H b = none) : ExtK H (upd H b u) := fun c φ e => by
  rw [upd_ne (ne_of_none e h)]; exact e
theorem extk_lst {H : Hp} {b : Addr} {xs : List V} {u : HO} (h : H b = some (.lst xs)) : ExtK H (upd H b u) := fun c φ e => by
  have : c ≠ b := fun z => by rw [z, h] at e; cases e
  rw [upd_ne this]; exact e
theorem nV_get {ns : List Nat} {k n : Nat} (h : ns[k]? = some n) : (nV ns)[k]? = some (V.int ((n : Nat) : Int)) := by
  rw [List.getElem?_map, h]; rfl
theorem nV_set {ns : List Nat} {k n : Nat} : (nV ns).set k (V.int ((n : Nat) : Int)) = nV (ns.set k n) := by
  exact (List.map_set (f := fun n : Nat => V.int ((n : Nat) : Int))).symm
theorem ok_grid_points (T : Txt K mg) : GenOk P w K mg base 1 T.a_grid_points T.fd_grid_points ["sizes"] sp_grid_points := by
  refine gen_ok T.F_grid_points sc_grid_points ["sizes", "point"] (by kernel_rfl) (by decide +kernel) (fun n x => ?_) (fun L cdv => rfl) (fun vs H sh n items h => ?_) (fun vs H sh n items h => ?_) (fun cdv A outer L vs H sh n items hr h => ?_)
  · rfl
  · obtain ⟨a, ss, rfl, _⟩ := h
    rfl
  · obtain ⟨a, ss, rfl, _, h1, _, _, rfl, _⟩ := h
    exact prodL_pos h1
  · obtain ⟨a, ss, rfl, ha, hp, hl, rfl, rfl, rfl⟩ := h
    refine ⟨⟨HeadG a ss, SlpG a ss, fun s0 H0 => ⟨_, (pss_cons (ps_set (i := 1) sc_grid_points.nd rfl (.inl rfl) (pe_op op_rep (pe_lst (pa_cons pe_int pa_nil)) (pe_callB (id := "len") (r := rLen K) cr_len (by rfl) T.m_len PySem.boot_len (pa_cons (pv 0) pa_nil))))
      (pss_one (ps_set (i := 2) sc_grid_points.nd rfl (.inl rfl) pe_int))), fun H h => ?_⟩, fun s0 H0 => ⟨_, _, (pt_cmpR op_ge (pv 2) pe_int (nomark _)), (pe_callTy (T := "tuple") (r := rTupOf K) cr_tup_of (by rfl) T.m_tuple (by decide +kernel) (pa_cons (pv 1) pa_nil)), fun i ks σ H hi h => ?_, fun ks σ H h => ?_⟩, fun s0 H0 => ⟨_, (pss_cons (ps_set (i := 2) sc_grid_points.nd rfl (.inl rfl) (pe_op op_sub (pe_callB (id := "len") (r := rLen K) cr_len (by rfl) T.m_len PySem.boot_len (pa_cons (pv 0) pa_nil)) pe_int))
      (pss_cons (ps_while PassesOwn.never (PW.pt (pw_and (pt_cmpR op_ge (pv 2) pe_int (nomark _)) (pw_and1 (pt_cmpR op_eq (pe_ix (r := rIxL K) ix_list (pv 1) (pv 2) (fun _ _ => rfl)) (pe_op op_sub (pe_ix (r := rIxL K) ix_list (pv 0) (pv 2) (fun _ _ => rfl)) pe_int) (nomark _)))))
      (pss_cons (ps_asg pe_int (pg_sub (pv 1) (pv 2) set_list))
      (pss_one (ps_aug (i := 2) sc_grid_points.nd rfl (.inl rfl) pe_int ip_sub))))
      (pss_one (ps_if (pt_cmpR op_ge (pv 2) pe_int (nomark _))
      (pss_one (ps_augS (pv 1) (pv 2) get_list pe_int ip_add set_list))
      pss_nil)))), fun i ks σ H hi h => ?_⟩, fun i ks σ H h => ?_, fun i ks σ H H' h hk => ?_, fun i ks σ H h => ?_⟩⟩
    · have ha := h (a, nV ss) (List.mem_singleton.mpr rfl)
      have ha : H a = some (.lst (nV ss)) := ha
      walk_at "start"
      walk_at "x"
      refine ⟨by show 1 ≤ sizeLine; decide, fun q hq => ?_⟩
      have x1 := extk_new (u := .lst [V.int 0]) hq
      have e1 : (upd H q (.lst [V.int 0])) q = some (.lst [V.int 0]) := upd_same
      have qa : a ≠ q := ne_of_none ha hq
      have a1 : (upd H q (.lst [V.int 0])) a = some (.lst (nV ss)) := (upd_ne qa).trans ha
      generalize upd H q (.lst [V.int 0]) = H1 at x1 e1 a1
      walk_at "x"
      refine x_len (sq_of a1) ?_
      rw [show ((nV ss).length : Int) = (ss.length : Int) by rw [List.length_map]]
      refine ⟨q, (ss.length : Int), [V.int 0], rfl, rfl, e1, by omega, by omega, Nat.le_trans (show 1 * (ss.length : Int).toNat ≤ 1000 by rw [Int.toNat_natCast]; omega) (by decide), fun r hr => ?_⟩
      have eR : (List.replicate (ss.length : Int).toNat [V.int 0]).flatten = nV (dg ss 0) := by
        rw [Int.toNat_natCast, dg_zero hp]
        show _ = (List.replicate ss.length 0).map _
        rw [List.map_replicate]
        exact List.flatten_replicate_singleton ..
      rw [eR]
      have x2 := x1.trans (extk_new (u := .lst (nV (dg ss 0))) hr)
      have ra : a ≠ r := ne_of_none a1 hr
      have e2 : (upd H1 r (.lst (nV (dg ss 0)))) r = some (.lst (nV (dg ss 0))) := upd_same
      have a2 : (upd H1 r (.lst (nV (dg ss 0)))) a = some (.lst (nV ss)) := (upd_ne ra).trans a1
      generalize upd H1 r (.lst (nV (dg ss 0))) = H2 at x2 e2 a2
      walk_at "x"
      exact ⟨⟨_, r, 0, rfl, Ne.symm ra, rfl, a2, e2, fun _ => Int.le_refl _, fun z => absurd z (Nat.ne_of_lt (prodL_pos hp))⟩, x2⟩
    · obtain ⟨p, z, rfl, hpa, rfl, h1, h2, h3, h4⟩ := h
      walk_at "x"
      refine ⟨decide_eq_true (h3 hi), ?_⟩
      walk_at "x"
      refine x_tupL (sq_of h2) fun r hr => ?_
      exact ⟨r, rfl, upd_same, extk_new hr, p, z, rfl, hpa, rfl, (upd_ne (ne_of_none h1 hr)).trans h1, (upd_ne (ne_of_none h2 hr)).trans h2⟩
    · obtain ⟨p, z, rfl, hpa, rfl, h1, h2, h3, h4⟩ := h
      walk_at "x"
      refine ⟨decide_eq_false (by have := h4 rfl; omega), ExtK.refl, fun q hq => ?_⟩
      rw [List.mem_singleton.mp hq]
      exact h1
    · obtain ⟨p, z, rfl, hpa, rfl, h1, h2⟩ := h
      walk_at "x"
      refine x_len (sq_of h1) ?_
      walk_at "x"
      rw [show ((nV ss).length : Int) = (ss.length : Int) by rw [List.length_map]]
      refine x_while (fun m σ' H' => ∃ j : Nat, m = j ∧ j ≤ ss.length ∧ σ' = [some (V.ref a), some (.ref p), some (.int ((j : Int) - 1))] ∧ H' a = some (.lst (nV ss)) ∧ H' p = some (.lst (nV (mixd ss i j))) ∧ (i + 1) % prodL (ss.drop j) = 0 ∧ ExtK H H') ss.length ⟨_, rfl, Nat.le_refl _, rfl, h1, by rw [mixd_all]; exact h2, by rw [List.drop_length]; exact Nat.mod_one _, ExtK.refl⟩ ?_
      rintro j σ' H' ⟨_, rfl, hj, rfl, a1, p1, hc, xk⟩
      cases j with
      | zero =>
        refine ⟨false, fun R hR => ?_, fun z => (nomatch z), fun _ => ?_⟩
        · walk_at "x"
          exact hR
        · walk_at "x"
          refine x_ite (fun h => absurd h (by omega)) (fun h => ?_)
          refine ⟨⟨p, _, rfl, hpa, rfl, a1, p1, fun hl => absurd hc (by rw [List.drop_zero, Nat.mod_eq_of_lt hl]; omega), fun _ => by omega⟩, xk⟩
      | succ j =>
        have ej : ((j + 1 : Nat) : Int) - 1 = (j : Int) := by omega
        rw [ej]
        have hs : ss[j]? = some ss[j] := List.getElem?_eq_getElem hj
        generalize ss[j] = s at hs
        have hm := mixd_get (i := i) hs
        have hd := dg_lt hp (dg_get (i := i) hs) hs
        generalize hdd : i / prodL (ss.drop (j + 1)) % s = d at hm hd
        refine ⟨decide (d = s - 1), fun R hR => ?_, fun hb => ?_, fun hb => ?_⟩
        · walk_at "x"
          refine x_ite (fun _ => ?_) (fun h => absurd (Int.natCast_nonneg j) h)
          walk_at "x"
          refine x_ixL (v := .int ((d : Nat) : Int)) (sq_of p1) (atI_nat (nV_get hm)) ?_
          walk_at "x"
          refine x_ixL (v := .int ((s : Nat) : Int)) (sq_of a1) (atI_nat (nV_get hs)) ?_
          walk_at "x"
          have e : decide ((d : Int) = (s : Int) - 1) = decide (d = s - 1) := by
            by_cases q : d = s - 1
            · rw [decide_eq_true q, decide_eq_true (by omega)]
            · rw [decide_eq_false q, decide_eq_false (by omega)]
          rw [e]
          exact hR
        · have hb := of_decide_eq_true hb
          obtain ⟨c1, c2⟩ := carry_on hp hs hc (hdd.trans hb)
          walk_at "x"
          refine x_subL (k := j) p1 (by rw [List.length_map, mixd_len]; exact ixN_nat hj) ?_
          walk_at "x"
          refine ⟨_, rfl, ?_⟩
          walk_at "x"
          refine ⟨_, _, rfl, rfl, ?_⟩
          refine ⟨j, Nat.lt_succ_self j, j, rfl, Nat.le_of_lt hj, rfl, (upd_ne (Ne.symm hpa)).trans a1, ?_, c2, xk.trans (extk_lst p1)⟩
          rw [upd_same, show V.int 0 = V.int ((0 : Nat) : Int) from rfl, nV_set, mixd_set c1]
        · have hb := of_decide_eq_false hb
          obtain ⟨c1, c2⟩ := carry_end hp hs hc (by rw [hdd]; exact hb)
          walk_at "x"
          refine x_ite (fun _ => ?_) (fun h => absurd (Int.natCast_nonneg j) h)
          refine x_augS ?_
          walk_at "x"
          refine ⟨p, _, j, .int ((d : Nat) : Int), rfl, rfl, sq_of p1, nV_get hm, ?_⟩
          walk_at "x"
          refine ⟨_, _, rfl, rfl, ?_⟩
          refine x_subL (k := j) p1 (by rw [List.length_map, mixd_len]; exact ixN_nat hj) ?_
          refine ⟨⟨p, _, rfl, hpa, rfl, (upd_ne (Ne.symm hpa)).trans a1, ?_, fun _ => Int.natCast_nonneg j, fun hz => absurd (show (i + 1) % prodL (ss.drop 0) = 0 by rw [List.drop_zero, hz]; exact Nat.mod_self _) (mod_up (P := 0) c2 0 (Nat.zero_le _))⟩, xk.trans (extk_lst p1)⟩
          rw [upd_same, show V.int ((d : Int) + 1) = V.int ((d + 1 : Nat) : Int) by rw [Int.natCast_add]; rfl, nV_set, mixd_set (by rw [← hdd]; exact c1), mixd_done hp c2]
    · obtain ⟨p, z, rfl, hpa, rfl, h1, h2⟩ := h
      refine ⟨fun b hb => ?_, fun q hq => ?_⟩
      · rcases List.mem_cons.mp hb with e | hb
        · subst e; exact ⟨_, h1⟩
        · rw [List.mem_singleton.mp hb]; exact ⟨_, h2⟩
      · rw [List.mem_singleton.mp hq]
        exact ⟨List.mem_cons_self, h1⟩
    · obtain ⟨p, z, rfl, hpa, rfl, h1, h2⟩ := h
      exact ⟨p, z, rfl, hpa, rfl, (hk a List.mem_cons_self).trans h1, (hk p (List.mem_cons_of_mem _ (List.mem_singleton.mpr rfl))).trans h2⟩
    · obtain ⟨p, z, rfl, hpa, rfl, h1, h2⟩ := h
      refine ⟨rfl, fun k x b e1 e2 => ?_⟩
      match k, e1, e2 with
      | 0, e1, e2 => cases e1; cases e2; exact ⟨0, rfl, rfl⟩
      | 1, e1, e2 => cases e1; cases e2; exact ⟨1, rfl, rfl⟩
      | k + 2, e1, _ => simp at e1


end
end Br
namespace Br
open PySem PySem.Spec PyProof.Rows L2
local macro_rules | `(tactic| walk_at "x1") => `(tactic| (with_reducible first
  | refine Br.x_seq ?_ | refine Br.x_set ?_ | refine Br.x_asg ?_ | refine Br.x_next ?_ | refine Br.x_ret ?_ | refine Br.x_retN ?_ | refine Br.x_drop ?_ | refine Br.x_if ?_ | refine Br.x_brk ?_ | refine Br.x_cont ?_
  | refine Br.x_c ?_ | refine Br.x_op ?_ | refine Br.x_un ?_ | refine Br.x_I0 ?_ | refine Br.x_U ?_ | refine Br.x_EqI ?_ | refine Br.x_NeI ?_ | refine Br.x_EqB ?_ | refine Br.x_iN ?_ | refine Br.x_int1 ?_ | refine Br.x_min2 ?_ | refine Br.x_max2 ?_ | refine Br.x_nN ?_ | refine Br.x_ifE ?_
  | refine Br.x_test (b := ()) ?_ | refine Br.x_tB ?_ | refine Br.x_bl ?_ | refine Br.x_and ?_ | refine Br.x_or ?_ | refine Br.x_not ?_ | refine Br.x_andV ?_ | refine Br.x_orV ?_ | refine Br.x_notV ?_ | refine Br.x_blP ?_
  | refine Br.x_nil ?_ | refine Br.x_cons ?_ | refine Br.x_call ?_ | refine Br.x_CB ?_ | refine Br.x_BM ?_ | refine Br.x_tup ?_ | refine Br.x_lst ?_ | refine Br.x_chain ?_ | refine Br.x_par ?_ | refine Br.x_gSub ?_ | refine Br.x_gName ?_ | refine Br.x_fld ?_ | refine Br.x_fldS ?_ | refine Br.x_match ?_ | refine Br.x_else ?_ | refine Br.x_noCase ?_))
local macro_rules | `(tactic| walk_at "xv") => `(tactic| ((with_reducible refine' Br.x_var ?hvar ?_); (case hvar => rfl)))
local macro_rules | `(tactic| walk_at "xd") => `(tactic| (dsimp only [List.set_cons_zero, List.set_cons_succ, List.cons_append, List.nil_append, List.append_nil]))
local macro_rules | `(tactic| walk_at "xi") => `(tactic| ((with_reducible refine Br.x_I ?hside ?_); (case hside => first | exact Br.mul_r (by decide) (by decide) | exact Br.mul_l (by decide) (by decide) | exact Br.mul_l (by omega) (by omega) | exact Br.mul_r (by omega) (by omega) | (show (0 : Int) < _; first | decide | omega) | exact ⟨by decide, by decide⟩ | exact ⟨by omega, by omega⟩ | exact ⟨by decide, by decide, by decide⟩)))
local macro_rules | `(tactic| walk_at "x") => `(tactic| (repeat (first | walk_at "x1" | walk_at "xv" | walk_at "xi" | walk_at "xd")))
local macro_rules | `(tactic| walk_at "start") => `(tactic| (simp only [L2.start, List.map_cons, List.map_nil, List.length_cons, List.length_nil, Nat.reduceAdd, Nat.reduceSub, List.replicate, List.cons_append, List.nil_append, List.append_nil]))
local macro_rules | `(tactic| walk_at "isi") => `(tactic| first
  | refine Br.x_isi (b := true) (.base (.int _)) (by decide +kernel) ?_ | refine Br.x_isi (b := false) (.base (.int _)) (by decide +kernel) ?_
  | refine Br.x_isi (b := true) (.base (.bl _)) (by decide +kernel) ?_ | refine Br.x_isi (b := false) (.base (.bl _)) (by decide +kernel) ?_
  | refine Br.x_isi (b := false) (.base .non) (by decide +kernel) ?_
  | refine Br.x_isi (b := true) (.base (.str _)) (by decide +kernel) ?_ | refine Br.x_isi (b := false) (.base (.str _)) (by decide +kernel) ?_
  | refine Br.x_isi (b := true) (.base (.tup (by assumption))) (by decide +kernel) ?_ | refine Br.x_isi (b := false) (.base (.tup (by assumption))) (by decide +kernel) ?_
  | refine Br.x_isi (b := true) (.base (.lst (by assumption))) (by decide +kernel) ?_ | refine Br.x_isi (b := false) (.base (.lst (by assumption))) (by decide +kernel) ?_)
local macro_rules | `(tactic| walk_at "f") => `(tactic| (refine L2.iteF ?_; walk_at "x"))
local macro_rules | `(tactic| walk_at "t") => `(tactic| (refine L2.iteT ?_; walk_at "x"))
local macro_rules | `(tactic| walk_at "is") => `(tactic| (walk_at "isi"; walk_at "x"))
local macro_rules | `(tactic| walk_at "xb") => `(tactic| (simp only [Br.bindS, List.set_cons_zero, List.set_cons_succ]; walk_at "x"))

section
variable {P : Program} {w : World} {K : PySem.W.Frag} {mg : Str → Option Value} {base : Heap}

open Br Br.F
theorem x_forPreP {σ : L2.St} {H : Hp} {D : Ends} {ta : TE} {g : TG} {tb : TS} (h : ta σ H fun v H1 => tFor (iList K (tC v)) g tb D σ H1) : tFor (iList K ta) g tb D σ H := h
theorem x_slSt {te : TE} {tl th ts : TO} {σ : L2.St} {H : Hp} {Q : VK} (h : te σ H fun x H1 => tl σ H1 fun l H2 => th σ H2 fun u H3 => ts σ H3 fun st H4 => ∃ a xs, x = .ref a ∧ SqL K H4 a xs ∧ st ≠ some 0 ∧ (pickV xs l u st).length ≤ sizeLine ∧ ∀ p, H4 p = none → Q (.ref p) (upd H4 p (.lst (pickV xs l u st)))) : tSlSt K te tl th ts σ H Q := h
theorem x_revLP {te : TE} {σ : L2.St} {H : Hp} {Q : VK} (h : te σ H fun x H1 => ∃ a xs, x = .ref a ∧ SqL K H1 a xs ∧ ∀ p, H1 p = none → Q (.ref p) (upd H1 p (.lst xs.reverse))) : tRevL K te σ H Q := h
theorem x_lcPreP {te : TE} {ta : TE} {j : Nat} {vs : List Nat} {σ : L2.St} {H : Hp} {Q : VK} (h : ta σ H fun v H1 => tLc (iList K (tC v)) (gName j) tYes te vs σ H1 Q) : tLc (iList K ta) (gName j) tYes te vs σ H Q := h
theorem x_listZip {te : TE} {σ : L2.St} {H : Hp} {Q : VK} (h : te σ H fun y H1 => ∃ (a : Addr) (ls : List Addr) (cols : List (List V)) (m : Nat), y = .ref a ∧ SqL K H1 a (ls.map V.ref) ∧ ls ≠ [] ∧ ls.length = cols.length ∧ ls.length ≤ sizeLine ∧ m < sizeLine ∧
  (∀ (j : Nat) l c, ls[j]? = some l → cols[j]? = some c → H1 l = some (.lst c) ∧ c.length = m) ∧
  ∀ p H2 (Ts : List Addr), H1 p = none → (∀ b o, H1 b = some o → H2 b = some o) → H2 p = some (.lst (Ts.map V.ref)) → Ts.length = m → (∀ i T, Ts[i]? = some T → H2 T = some (.tup (rowV cols i))) → Q (.ref p) H2) : tListZip K te σ H Q := h
theorem getD_mapI {L : List Int} {i : Nat} (h : i < L.length) : (L.map V.int).getD i .non = V.int (L.getD i 0) := by
  rw [List.getD_eq_getElem?_getD, List.getD_eq_getElem?_getD, List.getElem?_map, List.getElem?_eq_getElem h]
  rfl
theorem map_getN {ss : List Nat} {k : Nat} {x : V} (h : (nV ss)[k]? = some x) : ∃ s, ss[k]? = some s ∧ x = .int (s : Int) := by
  rw [List.getElem?_map] at h
  cases e : ss[k]? with
  | none => rw [e] at h; cases h
  | some s => rw [e] at h; exact ⟨s, rfl, (Option.some.inj h).symm⟩
theorem x_lcZ {spec : SpG4} {ta : TA} {j : Nat} {g : TG} {tt : TT} {te : TE} {vs : List Nat} {σ : L2.St} {H : Hp} {Q : VK} (h : ta σ H fun vs1 H1 => ∃ sh n items, spec vs1 H1 sh n items ∧ (∀ p ∈ sh, H1 p.1 = some (.lst p.2)) ∧ ∃ (l2 : Addr) (ys : List V), σ[j]? = some (some (.ref l2)) ∧ H1 l2 = some (.lst ys) ∧ ys.length = n ∧
  ∀ D, H1 D = none → ∃ W : Nat → Hp → Prop, W 0 (upd H1 D (.lst [])) ∧ (∀ i H', i ≤ n → W i H' → (∀ p ∈ sh, H' p.1 = some (.lst p.2)) ∧ H' l2 = some (.lst ys)) ∧
    (∀ i H', i < n → W i H' → ∀ r T y, ys[i]? = some y → H' r = none → T ≠ r → H' T = none → g (.ref T) (wipe σ vs) (upd (upd H' r (.tup (items i))) T (.tup [.ref r, y])) fun σ2 H2 => wipe σ2 vs = wipe σ vs ∧ tt σ2 H2 fun b H3 =>
      if b = true then te σ2 H3 fun x H4 => ∃ acc, H4 D = some (.lst acc) ∧ acc.length < sizeLine ∧ W (i + 1) (upd H4 D (.lst (acc ++ [x]))) else W (i + 1) H3) ∧ ∀ H', W n H' → Q (.ref D) H') : tLcZ spec ta j g tt te vs σ H Q := h
theorem x_zipPreX {ta : TA} {g : TG} {tt : TT} {te : TE} {vs : List Nat} {σ : L2.St} {H : Hp} {Q : VK} (h : ta σ H fun vs1 H1 => tLc (iZipX K fun _ H R => R vs1 H) g tt te vs σ H1 Q) : tLc (iZipX K ta) g tt te vs σ H Q := h

/-- the coefficients of the polynomial times x - at -/
def timesL (xs : List Int) (a p : Int) : List Int := List.zipWith (fun x y => (x - a * y) % p) (0 :: xs) (xs ++ [0])
theorem timesL_len {xs : List Int} {a p : Int} : (timesL xs a p).length = xs.length + 1 := by
  unfold timesL
  rw [List.length_zipWith, List.length_cons, List.length_append, List.length_singleton, Nat.min_self]
theorem zw_rg {p : Int} (hp : 0 < p) {f : Int → Int → Int} {xs ys : List Int} : ∀ z ∈ List.zipWith (fun x y => f x y % p) xs ys, 0 ≤ z ∧ z < p := fun z hz => by
  obtain ⟨i, h, rfl⟩ := List.mem_iff_getElem.mp hz
  rw [List.getElem_zipWith]
  exact ⟨Int.emod_nonneg _ (by omega), Int.emod_lt_of_pos _ hp⟩
def sp_times (K : PySem.W.Frag) : Sp := fun vs H Q _ => ∃ (a : Addr) (xs : List Int) (x p : Nat), vs = [.ref a, .int (x : Int), .int (p : Int)] ∧ H a = some (.lst (xs.map V.int)) ∧ xs.length ≤ 1000 ∧ x ≤ 1000 ∧ 2 ≤ p ∧ p ≤ 1000000000 ∧
  ∀ l H', H l = none → Same H H' → H' l = some (.lst ((timesL xs x p).map V.int)) → Q (.ref l) H'
theorem ok_times (T : Txt K mg) : FnOk P w K mg base CX0 1 T.a_times T.fd_times ["polynomial", "at", "prime"] (sp_times K) := by
  refine T.F_times.ok sc_times (fun vs H Q E h => ?_) (fun cdv A outer s H vs Q E hr h => ?_)
  · obtain ⟨a, xs, x, p, rfl, _⟩ := h
    rfl
  · obtain ⟨a, xs, x, p, rfl, ha, hl, hx, h2, h3, q⟩ := h
    refine ⟨_, (pss_cons (ps_set (i := 3) sc_times.nd rfl (.inl rfl) (pe_op op_cat (pe_lst (pa_cons pe_int pa_nil)) (pv 0)))
      (pss_one (ps_ret (pe_lc (own := [("above", 4), ("number", 5)]) (g := gTup K 2 (gCons (gName 4) (gCons (gName 5) gNil))) (tt := tYes) rfl sc_times.nd (pi_zip (by rfl) T.m_zip (pa_cons (pv 3) (pa_cons (pe_op op_cat (pv 0) (pe_lst (pa_cons pe_int pa_nil))) pa_nil))) (blkOk_by (N := N_times) (sc := defScope s_times) (by decide +kernel)) (fun _ _ _ _ _ => (pg_tup rfl (pgs_cons (pg_name (i := 4) sc_times.nd rfl (Or.inl rfl)) (pgs_cons (pg_name (i := 5) sc_times.nd rfl (Or.inl rfl)) pgs_nil)))) (fun _ _ _ _ _ => pts_nil) (fun _ _ _ _ _ => (pe_op op_mod (pe_op op_sub (pv 4) (pe_op op_mul (pv 1) (pv 5))) (pv 2))))))), ?_⟩
    walk_at "start"
    walk_at "x"
    refine ⟨by show 1 ≤ sizeLine; decide, fun z hz => ?_⟩
    have s1 := same_upd (o := .lst [V.int 0]) hz
    have e1 : (upd H z (.lst [V.int 0])) z = some (.lst [V.int 0]) := upd_same
    generalize upd H z (.lst [V.int 0]) = H1 at s1 e1
    walk_at "x"
    refine x_cat e1 (s1 _ _ ha) (by rw [List.length_map]; show 1 + _ ≤ _; omega) fun r hr => ?_
    have s2 := s1.trans (same_upd (o := .lst ([V.int 0] ++ xs.map V.int)) hr)
    have e2 : (upd H1 r (.lst ([V.int 0] ++ xs.map V.int))) r = some (.lst (((0 : Int) :: xs).map V.int)) := upd_same
    generalize upd H1 r (.lst ([V.int 0] ++ xs.map V.int)) = H2 at s2 e2
    walk_at "x"
    refine x_zipPre ?_
    walk_at "x"
    refine ⟨by show 1 ≤ sizeLine; decide, fun y hy => ?_⟩
    have s3 := s2.trans (same_upd (o := .lst [V.int 0]) hy)
    have e3 : (upd H2 y (.lst [V.int 0])) y = some (.lst [V.int 0]) := upd_same
    have e2' := (same_upd (o := .lst [V.int 0]) hy) _ _ e2
    generalize upd H2 y (.lst [V.int 0]) = H3 at s3 e3 e2'
    walk_at "x"
    refine x_cat (s3 _ _ ha) e3 (by rw [List.length_map]; show _ + 1 ≤ _; omega) fun u hu => ?_
    have s4 := s3.trans (same_upd (o := .lst (xs.map V.int ++ [V.int 0])) hu)
    have e4 : (upd H3 u (.lst (xs.map V.int ++ [V.int 0]))) u = some (.lst ((xs ++ [0]).map V.int)) := by rw [upd_same, List.map_append]; rfl
    have e2'' := (same_upd (o := .lst (xs.map V.int ++ [V.int 0])) hu) _ _ e2'
    generalize upd H3 u (.lst (xs.map V.int ++ [V.int 0])) = H4 at s4 e4 e2''
    walk_at "x"
    refine x_zipLL (fun x' y' => (x' - x * y') % p) e2'' e4 (by simp) (by simp; omega) (fun _ _ => rfl) (fun k x' y' H' R hs _ _ hR => ?_) fun l H' hl' hs hw => ?_
    · walk_at "x"
      exact hR
    · refine q l H' ?_ (s4.trans hs) hw
      cases e : H l with
      | none => rfl
      | some o => rw [s4 _ _ e] at hl'; cases hl'


def hornL (a p : Int) : Int → List Int → List Int
  | _, [] => []
  | l, n :: ns => (n + a * l) % p :: hornL a p ((n + a * l) % p) ns
theorem hornL_len {a p : Int} : ∀ {ns : List Int} {l : Int}, (hornL a p l ns).length = ns.length
  | [], _ => rfl
  | n :: ns, l => by unfold hornL; rw [List.length_cons, List.length_cons, hornL_len]
theorem hornL_snoc {a p : Int} : ∀ {ns : List Int} {l n : Int}, hornL a p l (ns ++ [n]) = hornL a p l ns ++ [(n + a * ((hornL a p l ns).getLastD l)) % p]
  | [], l, n => rfl
  | m :: ns, l, n => by
    show (m + a * l) % p :: hornL a p ((m + a * l) % p) (ns ++ [n]) = _
    rw [hornL_snoc]
    show _ = (m + a * l) % p :: (hornL a p ((m + a * l) % p) ns ++ _)
    congr 3
    show _ = _
    cases h : hornL a p ((m + a * l) % p) ns with
    | nil =>
      have e : hornL a p l (m :: ns) = [(m + a * l) % p] := by unfold hornL; rw [h]
      rw [e]; rfl
    | cons z zs =>
      have e : hornL a p l (m :: ns) = (m + a * l) % p :: z :: zs := by
        show (m + a * l) % p :: hornL a p ((m + a * l) % p) ns = _
        rw [h]
      rw [e]; rfl
/-- the polynomial, divided by x - at -/
def divL (xs : List Int) (a p : Int) : List Int := (hornL a p 0 (xs.drop 1).reverse).reverse
theorem divL_len {xs : List Int} {a p : Int} : (divL xs a p).length = xs.length - 1 := by
  unfold divL
  rw [List.length_reverse, hornL_len, List.length_reverse, List.length_drop]
def sp_divided (K : PySem.W.Frag) : Sp := fun vs H Q _ => ∃ (a : Addr) (xs : List Int) (x p : Nat), vs = [.ref a, .int (x : Int), .int (p : Int)] ∧ H a = some (.lst (xs.map V.int)) ∧ xs.length ≤ 1001 ∧ x ≤ 1000 ∧ 2 ≤ p ∧ p ≤ 1000000000 ∧
  ∀ l H', H l = none → Same H H' → H' l = some (.lst ((divL xs x p).map V.int)) → Q (.ref l) H'
theorem ok_divided (T : Txt K mg) : FnOk P w K mg base CX0 1 T.a_divided T.fd_divided ["polynomial", "at", "prime"] (sp_divided K) := by
  refine T.F_divided.ok sc_divided (fun vs H Q E h => ?_) (fun cdv A outer s H vs Q E hr h => ?_)
  · obtain ⟨a, xs, x, p, rfl, _⟩ := h
    rfl
  · obtain ⟨a, xs, x, p, rfl, ha, hl, hx, h2, h3, q⟩ := h
    refine ⟨_, (pss_cons (ps_set (i := 3) sc_divided.nd rfl (.inl rfl) (pe_lst pa_nil))
      (pss_cons (ps_set (i := 4) sc_divided.nd rfl (.inl rfl) pe_int)
      (pss_cons (ps_for PassesOwn.never rfl (pi_list (pe_slSt (pv 0) po_none (po_some pe_int) (po_some (pe_un un_neg pe_int)))) (pg_name (i := 5) sc_divided.nd rfl (Or.inl rfl))
      (pss_cons (ps_set (i := 4) sc_divided.nd rfl (.inl rfl) (pe_op op_mod (pe_op op_add (pv 5) (pe_op op_mul (pv 1) (pv 4))) (pv 2)))
      (pss_one (ps_expr (pe_bm PySem.F.plainAttrs_list PySem.F.slot_list_append PySem.F.type_list_append mt_append (pv 3) (pa_cons (pv 4) pa_nil))))))
      (pss_one (ps_ret (pe_revL (pv 3))))))), ?_⟩
    walk_at "start"
    walk_at "x"
    refine ⟨Nat.zero_le _, fun r hr => ?_⟩
    have s1 := same_upd (o := .lst []) hr
    have e1 : (upd H r (.lst [])) r = some (.lst (([] : List Int).map V.int)) := upd_same
    generalize upd H r (.lst []) = H1 at s1 e1
    walk_at "x"
    refine x_forPreP ?_
    refine x_slSt ?_
    walk_at "x"
    refine ⟨_, rfl, ?_⟩
    walk_at "x"
    refine ⟨1, rfl, -1, rfl, a, _, rfl, sq_of (s1 _ _ ha), by decide, ?_, fun y hy => ?_⟩
    · rw [show (-1 : Int) = -1 from rfl, pick_down, List.length_reverse, List.length_drop, List.length_map]
      exact Nat.le_trans (show _ ≤ 1001 by omega) (by decide)
    rw [pick_down]
    have e2 : (upd H1 y (.lst ((xs.map V.int).drop 1).reverse)) y = some (.lst (((xs.drop 1).reverse).map V.int)) := by rw [upd_same, List.map_reverse, List.map_drop]
    have s2 := s1.trans (same_upd (o := .lst ((xs.map V.int).drop 1).reverse) hy)
    have e1' := (same_upd (o := .lst ((xs.map V.int).drop 1).reverse) hy) _ _ e1
    have hry : r ≠ y := ne_of_none e1 hy
    generalize upd H1 y (.lst ((xs.map V.int).drop 1).reverse) = H2 at s2 e1' e2
    have hll : ((xs.drop 1).reverse).length ≤ 1000 := by rw [List.length_reverse, List.length_drop]; omega
    generalize hns : (xs.drop 1).reverse = ns at e2 hll
    walk_at "x"
    refine x_forL (p := y) (ns.map V.int) (fun k σ' H' => ∃ v5 : Option V, σ' = [some (V.ref a), some (.int (x : Int)), some (.int (p : Int)), some (.ref r), some (.int ((hornL x p 0 (ns.take k)).getLastD 0)), v5] ∧ Same H H' ∧ H' y = some (.lst (ns.map V.int)) ∧ H' r = some (.lst ((hornL x p 0 (ns.take k)).map V.int))) (fun R r => r) (sq_of e2) ⟨none, rfl, s2, e2, e1'⟩ (fun i σ' H' _ ⟨_, _, _, h, _⟩ => sq_of h) ?_ ?_
    · rintro k _ σ' H' hk ⟨v5, rfl, hs, hy', hr'⟩
      obtain ⟨n, hn, rfl⟩ := map_get hk
      walk_at "x"
      have et : ns.take (k + 1) = ns.take k ++ [n] := by rw [List.take_succ, hn]; rfl
      refine x_tyL hr' ?_
      walk_at "x"
      refine x_app hr' (by rw [List.length_map, hornL_len, List.length_take]; have := Nat.min_le_right k ns.length; omega) ?_
      walk_at "x"
      refine ⟨some (.int n), ?_, sput hs hr, by rw [upd_ne (Ne.symm hry)]; exact hy', ?_⟩
      · rw [et, hornL_snoc, List.getLastD_concat]
      · rw [upd_same, et, hornL_snoc, List.map_append]; rfl
    · rintro σ' H' ⟨v5, rfl, hs, hy', hr'⟩
      rw [List.length_map, List.take_length] at hr'
      walk_at "x"
      refine x_revLP ?_
      walk_at "x"
      refine ⟨r, _, rfl, sq_of hr', fun u hu => ?_⟩
      refine q u _ ?_ (hs.trans (same_upd hu)) ?_
      · cases e : H u with
        | none => rfl
        | some o => rw [hs _ _ e] at hu; cases hu
      · rw [upd_same]
        unfold divL
        rw [hns, List.map_reverse]


def sp_combined (K : PySem.W.Frag) : Sp := fun vs H Q _ => ∃ (a b : Addr) (xs ys : List Int), vs = [.ref a, .ref b] ∧ H a = some (.tup (xs.map V.int)) ∧ H b = some (.lst (ys.map V.int)) ∧ xs.length = ys.length ∧ xs.length ≤ 1000 ∧ Rg 0 1000000000 xs ∧
  ∀ H', Same H H' → Q (.int (List.zipWith (· * ·) xs ys).sum) H'
theorem ok_combined (T : Txt K mg) : FnOk P w K mg base CX0 1 T.a_combined T.fd_combined ["row", "column"] (sp_combined K) := by
  refine T.F_combined.ok sc_combined (fun vs H Q E h => ?_) (fun cdv A outer s H vs Q E hr h => ?_)
  · obtain ⟨a, b, xs, ys, rfl, _⟩ := h
    rfl
  · obtain ⟨a, b, xs, ys, rfl, ha, hb, hl, hn, hr, q⟩ := h
    refine ⟨_, (pss_one (ps_ret (pe_callB (id := "sum") (r := rSum K) (cr_sum rfl) (by rfl) T.m_sum (by decide +kernel) (pa_cons (pe_lc (own := [("factor", 2), ("content", 3)]) (g := gTup K 2 (gCons (gName 2) (gCons (gName 3) gNil))) (tt := tYes) rfl sc_combined.nd (pi_zipX (by rfl) T.m_zip (pa_cons (pv 0) (pa_cons (pv 1) pa_nil))) (blkOk_by (N := N_combined) (sc := defScope s_combined) (by decide +kernel)) (fun _ _ _ _ _ => (pg_tup rfl (pgs_cons (pg_name (i := 2) sc_combined.nd rfl (Or.inl rfl)) (pgs_cons (pg_name (i := 3) sc_combined.nd rfl (Or.inl rfl)) pgs_nil)))) (fun _ _ _ _ _ => pts_nil) (fun _ _ _ _ _ => (pe_op op_mul (pv 2) (pv 3)))) pa_nil)))), ?_⟩
    walk_at "start"
    walk_at "x"
    refine x_zipPreX ?_
    walk_at "x"
    refine x_zipTL (fun x y => x * y) ha hb hl (by omega) (fun _ _ => rfl) (fun k x y H' R hs hx _ hR => ?_) fun l H' hl' hs hw => ?_
    · have := hr.get hx
      walk_at "x"
      exact hR
    · walk_at "x"
      refine ⟨l, _, rfl, sq_of hw, ?_⟩
      exact q H' hs


/-- all of a grid's line -/
def wholeL (p : Int) : Nat → List Int
  | 0 => [1]
  | n + 1 => timesL (wholeL p n) (n : Int) p
theorem wholeL_len {p : Int} : ∀ {n : Nat}, (wholeL p n).length = n + 1
  | 0 => rfl
  | n + 1 => by unfold wholeL; rw [timesL_len, wholeL_len]
/-- a column: what the content at j counts, by the exponent -/
def colL (p : Nat) (n j : Nat) (f : Int) : List Int := (divL (wholeL p n) j p).map fun c => f * c % p
theorem colL_len {p n j : Nat} {f : Int} : (colL p n j f).length = n := by
  unfold colL
  rw [List.length_map, divL_len, wholeL_len]
  rfl
/-- the factors: one for each number of the line -/
def FacsP (p n : Nat) (fs : List Int) : Prop := ∀ (i : Nat) f, fs[i]? = some f → 0 ≤ f ∧ f < p ∧ (p : Int) ∣ f * Ab (i : Int) i n - 1
def sp_rows_for (K : PySem.W.Frag) : Sp := fun vs H Q _ => ∃ n p : Nat, vs = [.int (n : Int), .int (p : Int)] ∧ 1 ≤ n ∧ n ≤ 1000 ∧ IsPrime p ∧ n ≤ p ∧ p ≤ 1000000000 ∧
  ∀ l H' (Ts : List Addr) (fs : List Int), H l = none → Same H H' → H' l = some (.lst (Ts.map V.ref)) → Ts.length = n → fs.length = n → FacsP p n fs → (∀ (i : Nat) T, Ts[i]? = some T → H' T = some (.tup (((List.range n).map fun j => (colL p n j (fs.getD j 0)).getD i 0).map V.int))) → Q (.ref l) H'
theorem ok_rows_for (T : Txt K mg) : FnOk P w K mg base CX0 2 T.a_rows_for T.fd_rows_for ["size", "prime"] (sp_rows_for K) := by
  refine T.F_rows_for.ok sc_rows_for (fun vs H Q E h => ?_) (fun cdv A outer s H vs Q E hr h => ?_)
  · obtain ⟨n, p, rfl, _⟩ := h
    rfl
  · obtain ⟨n, p, rfl, hn1, hn2, hpr, hnp, hp9, q⟩ := h
    have hp2 : 2 ≤ p := hpr.1
    refine ⟨_, (pss_cons (ps_set (i := 2) sc_rows_for.nd rfl (.inl rfl) (pe_lst (pa_cons pe_int pa_nil)))
      (pss_cons (ps_for PassesOwn.never rfl (pi_range1 (by rfl) T.m_range (pa_cons (pv 0) pa_nil)) (pg_name (i := 3) sc_rows_for.nd rfl (Or.inl rfl))
      (pss_one (ps_set (i := 2) sc_rows_for.nd rfl (.inl rfl) (pe_call (ok_times T) hr (by rfl) T.g_times T.F_times.kp T.b_times .nil pass0 (pa_cons (pv 2) (pa_cons (pv 3) (pa_cons (pv 1) pa_nil)))))))
      (pss_cons (ps_set (i := 4) sc_rows_for.nd rfl (.inl rfl) (pe_lst pa_nil))
      (pss_cons (ps_for PassesOwn.never rfl (pi_enum (by rfl) T.m_enumerate (pa_cons (pe_call (ok_products_of_differences T) hr (by rfl) T.g_products_of_differences T.F_products_of_differences.kp T.b_products_of_differences .nil pass0 (pa_cons (pv 0) (pa_cons (pv 1) pa_nil))) pa_nil)) (pg_tup rfl (pgs_cons (pg_name (i := 3) sc_rows_for.nd rfl (Or.inl rfl)) (pgs_cons (pg_name (i := 5) sc_rows_for.nd rfl (Or.inl rfl)) pgs_nil)))
      (pss_cons (ps_set (i := 6) sc_rows_for.nd rfl (.inr rfl) (pe_call (ok_inverse_of T) hr (by rfl) T.g_inverse_of T.F_inverse_of.kp T.b_inverse_of .nil pass0 (pa_cons (pv 5) (pa_cons (pv 1) pa_nil))))
      (pss_one (ps_expr (pe_bm PySem.F.plainAttrs_list PySem.F.slot_list_append PySem.F.type_list_append mt_append (pv 4) (pa_cons (pe_lc (own := [("number", 7)]) (g := gName 7) (tt := tYes) rfl sc_rows_for.nd (pi_list (pe_call (ok_divided T) hr (by rfl) T.g_divided T.F_divided.kp T.b_divided .nil pass0 (pa_cons (pv 2) (pa_cons (pv 3) (pa_cons (pv 1) pa_nil))))) (blkOk_by (N := N_rows_for) (sc := defScope s_rows_for) (by decide +kernel)) (fun _ _ _ _ _ => (pg_name (i := 7) sc_rows_for.nd rfl (Or.inl rfl))) (fun _ _ _ _ _ => pts_nil) (fun _ _ _ _ _ => (pe_op op_mod (pe_op op_mul (pv 6) (pv 7)) (pv 1)))) pa_nil))))))
      (pss_one (ps_ret (pe_listZip rfl (by rfl) T.m_list (by rfl) T.m_zip (pv 4)))))))), ?_⟩
    walk_at "start"
    walk_at "x"
    refine ⟨by show 1 ≤ sizeLine; decide, fun w0 hw0 => ?_⟩
    have s1 := same_upd (o := .lst [V.int 1]) hw0
    have e1 : (upd H w0 (.lst [V.int 1])) w0 = some (.lst ((wholeL p 0).map V.int)) := upd_same
    generalize upd H w0 (.lst [V.int 1]) = H1 at s1 e1
    walk_at "x"
    refine x_forR1 (n : Int) (fun i σ' H' => ∃ (w : Addr) (v3 : Option V), σ' = [some (.int (n : Int)), some (.int (p : Int)), some (.ref w), v3, none, none, none, none] ∧ Same H H' ∧ H' w = some (.lst ((wholeL p i).map V.int))) (fun R r => ⟨_, rfl, r⟩) (by omega) (by omega) ⟨w0, none, rfl, s1, e1⟩ ?_ ?_
    · rintro i σ' H' hi ⟨w, v3, rfl, hs, hw⟩
      walk_at "x"
      refine ⟨w, _, i, p, rfl, hw, by rw [wholeL_len]; omega, by omega, hp2, hp9, fun l H2 hl hs2 h2 => ?_⟩
      walk_at "x"
      exact ⟨l, _, rfl, hs.trans hs2, h2⟩
    rintro σ' H2 ⟨w, v3, rfl, s2, hw⟩
    rw [Int.toNat_natCast] at hw
    walk_at "x"
    refine ⟨Nat.zero_le _, fun c hc => ?_⟩
    have hcH : H c = none := by
      cases e : H c with
      | none => rfl
      | some o => rw [s2 _ _ e] at hc; cases hc
    have s3 := s2.trans (same_upd (o := .lst []) hc)
    have hw3 := (same_upd (o := .lst []) hc) _ _ hw
    have e3 : (upd H2 c (.lst [])) c = some (.lst (([] : List Addr).map V.ref)) := upd_same
    have hwc : w ≠ c := ne_of_none hw hc
    generalize upd H2 c (.lst []) = H3 at s3 hw3 e3
    walk_at "x"
    refine x_for ?_
    unfold iEnum
    walk_at "x"
    refine ⟨n, p, rfl, hn1, hn2, hp2, hp9, fun b bs H4 hb hs4 hB hbl hbz => ?_⟩
    walk_at "x"
    have hcb : c ≠ b := ne_of_none e3 hb
    refine ⟨b, bs.map V.int, rfl, sq_of hB, for_it (D := ⟨_, Q, fun _ _ => False, fun _ _ => False⟩) (walk_enum (K := K) (xs := bs.map V.int)) (fun i σ' H' => ∃ (v3 v5 v6 v7 : Option V), σ' = [some (.int (n : Int)), some (.int (p : Int)), some (.ref w), v3, some (.ref c), v5, v6, v7] ∧ Same H H' ∧ H' b = some (.lst (bs.map V.int)) ∧ H' w = some (.lst ((wholeL p n).map V.int)) ∧
        ∃ (cs : List Addr) (fs : List Int), H' c = some (.lst (cs.map V.ref)) ∧ cs.length = i ∧ fs.length = i ∧ FacsP p n fs ∧ ∀ (j : Nat) l f, cs[j]? = some l → fs[j]? = some f → H' l = some (.lst ((colL p n j f).map V.int))) ?_ (fun i σ' H' _ z => ?_) ?_ ?_⟩
    · exact ⟨_, _, _, _, rfl, s3.trans hs4, hB, hs4 _ _ hw3, [], [], hs4 _ _ e3, rfl, rfl, fun i f h => by simp at h, fun j l f h => by simp at h⟩
    · obtain ⟨_, _, _, _, _, _, e, _⟩ := z
      exact sq_of e
    · rintro i _ σ' H' H5 hi ⟨v3, v5, v6, v7, rfl, hs, hB, hw, cs, fs, hcs, hcl, hfl, hF, hcol⟩ ⟨t, u, v, rfl, ht, rfl, gu, gv⟩
      cases gu
      obtain ⟨y, gy, rfl⟩ := map_get gv
      have hi : i < n := by rw [List.length_map] at hi; omega
      refine x_gTup2 (st_of upd_same) ?_
      have sT := same_upd (o := .tup [.int (i : Int), .int y]) ht
      have hs' := hs.trans sT
      have hB' := sT _ _ hB
      have hw' := sT _ _ hw
      have hc' := sT _ _ hcs
      have hcol' := fun j l f h1 h2 => sT _ _ (hcol j l f h1 h2)
      generalize upd H' t (.tup [.int (i : Int), .int y]) = H6 at hs' hB' hw' hc' hcol'
      walk_at "x"
      refine ⟨y, (p : Int), rfl, by omega, by omega, fun v H7 hv s7 => ?_⟩
      have hy := hbz i y gy
      have hcop : Int.gcd y (p : Int) = 1 := by
        have hnd : ¬ (p : Int) ∣ y := fun h1 => Ab_own hpr hi hnp (by
          have e : Ab (i : Int) i n = y - (y - Ab (i : Int) i n) := by omega
          rw [e]
          exact Int.dvd_sub h1 hy)
        have h1 : ¬ p ∣ y.natAbs := fun h => hnd (Int.ofNat_dvd_left.mpr h)
        have h2 := hpr.coprime h1
        show Nat.gcd y.natAbs ((p : Int)).natAbs = 1
        rw [Int.natAbs_natCast, Nat.gcd_comm]
        exact h2
      obtain ⟨z, rfl, z0, z1, hz⟩ := hv.2 hcop
      walk_at "x"
      refine x_tyL (s7 _ _ hc') ?_
      walk_at "x"
      refine x_lcPreP ?_
      walk_at "x"
      refine ⟨w, _, i, p, rfl, s7 _ _ hw', by rw [wholeL_len]; omega, by omega, hp2, hp9, fun d H8 hd s8 hD => ?_⟩
      walk_at "x"
      refine x_lcLI (fun q => z * q % p) hD (by rw [divL_len, wholeL_len]; omega) (fun _ => rfl) (fun k x H9 R hs9 _ hR => ?_) fun l H9 hl s9 hL => ?_
      · walk_at "x"
        exact hR
      walk_at "x"
      have s79 := (s7.trans s8).trans s9
      refine x_app (s79 _ _ hc') (by rw [List.length_map]; omega) ?_
      walk_at "x"
      have hlc : l ≠ c := fun q => by rw [q, s8 _ _ (s7 _ _ hc')] at hl; cases hl
      refine ⟨_, _, _, _, rfl, sput (hs'.trans s79) hcH, by rw [upd_ne (Ne.symm hcb)]; exact s79 _ _ hB', by rw [upd_ne hwc]; exact s79 _ _ hw', cs ++ [l], fs ++ [z], by rw [upd_same, List.map_append]; rfl, by rw [List.length_append, hcl]; rfl, by rw [List.length_append, hfl]; rfl, fun j f h => ?_, fun j l' f h1 h2 => ?_⟩
      · rcases snoc_at hfl h with ⟨_, h⟩ | ⟨rfl, rfl⟩
        · exact hF j f h
        · refine ⟨z0, z1, ?_⟩
          have h4 := Int.mul_ediv_add_emod (f * y) p
          have h5 : (p : Int) ∣ f * y - 1 := ⟨f * y / p, by omega⟩
          have e : f * Ab (j : Int) j n - 1 = f * y - 1 - f * (y - Ab (j : Int) j n) := by
            rw [Int.mul_sub]; omega
          rw [e]
          exact Int.dvd_sub h5 (Int.dvd_mul_of_dvd_right hy)
      · have hne : l' ≠ c := fun q => by
          rcases snoc_at hcl h1 with ⟨_, h⟩ | ⟨rfl, rfl⟩
          · have hj : j < fs.length := by rw [hfl, ← hcl]; exact (List.getElem?_eq_some_iff.mp h).1
            have := hcol j l' _ h (List.getElem?_eq_getElem hj)
            rw [q, hcs] at this
            have e := congrArg (fun l => l[0]?) (HO.lst.inj (Option.some.inj this))
            have hz0 : (colL p n j fs[j])[0]? = some ((colL p n j fs[j])[0]'(by rw [colL_len]; omega)) := List.getElem?_eq_getElem _
            simp only [List.getElem?_map, hz0, Option.map_some] at e
            cases q0 : cs[0]? with
            | none => rw [q0] at e; cases e
            | some a0 => rw [q0] at e; cases e
          · exact hlc q
        rw [upd_ne hne]
        rcases snoc_at hcl h1 with ⟨hj, h⟩ | ⟨rfl, rfl⟩
        · rcases snoc_at hfl h2 with ⟨_, h'⟩ | ⟨e, _⟩
          · exact s79 _ _ (hcol' j l' f h h')
          · omega
        · rcases snoc_at hfl h2 with ⟨hj, _⟩ | ⟨_, rfl⟩
          · omega
          · unfold colL
            exact hL
    · rintro σ' H' ⟨v3, v5, v6, v7, rfl, hs, hB, hw, cs, fs, hcs, hcl, hfl, hF, hcol⟩
      rw [List.length_map, hbl] at hcl hfl
      walk_at "x"
      refine ⟨_, rfl, c, cs, (List.range n).map fun j => (colL p n j (fs.getD j 0)).map V.int, n, rfl, sq_of hcs, fun q => by rw [q] at hcl; simp at hcl; omega, by rw [List.length_map, List.length_range, hcl], by rw [hcl]; exact Nat.le_trans hn2 (by decide), Nat.lt_of_le_of_lt hn2 (by decide), fun j l c' h1 h2 => ?_, fun l H2 Ts hl s2' h2 hT hTs => ?_⟩
      · have hj : j < n := by rw [← hcl]; exact (List.getElem?_eq_some_iff.mp h1).1
        rw [List.getElem?_map, List.getElem?_range hj] at h2
        obtain rfl := (Option.some.inj h2).symm
        have hf : fs[j]? = some (fs.getD j 0) := by rw [List.getD_eq_getElem?_getD, List.getElem?_eq_getElem (by omega)]; rfl
        exact ⟨hcol j l _ h1 hf, by rw [List.length_map, colL_len]⟩
      · refine q l H2 Ts fs ?_ (hs.trans s2') h2 hT hfl hF fun i T h => ?_
        · cases e : H l with
          | none => rfl
          | some o => rw [hs _ _ e] at hl; cases hl
        · have hi : i < n := by rw [← hT]; exact (List.getElem?_eq_some_iff.mp h).1
          rw [hTs i T h]
          unfold rowV
          rw [List.map_map, List.map_map]
          congr 2
          apply List.map_congr_left
          intro j hj
          show ((colL p n j (fs.getD j 0)).map V.int).getD i .non = V.int ((colL p n j (fs.getD j 0)).getD i 0)
          exact getD_mapI (by rw [colL_len]; exact hi)


def sp_coefficients (K : PySem.W.Frag) : Sp := fun vs H Q _ => ∃ (a b : Addr) (xs : List Int) (ss : List Nat) (p : Nat), vs = [.ref a, .ref b, .int (p : Int)] ∧ H a = some (.lst (xs.map V.int)) ∧ H b = some (.lst (nV ss)) ∧ IsPrime p ∧ p ≤ 1000000000 ∧ (∀ s ∈ ss, 1 ≤ s ∧ s ≤ p ∧ s ≤ 1000) ∧ ss.length ≤ 1000 ∧ xs.length = prodL ss ∧ xs.length ≤ 400000 ∧
  ∀ l (ys : List Int) H', Same H H' → H' l = some (.lst (ys.map V.int)) → ys.length = xs.length → Q (.ref l) H'
theorem prodL_dvd {s : Nat} : ∀ {ss : List Nat}, s ∈ ss → s ∣ prodL ss
  | [], h => absurd h (by simp)
  | t :: ss, h => by
    rcases List.mem_cons.mp h with q | q
    · subst q; exact Nat.dvd_mul_right _ _
    · exact Nat.dvd_mul_left_of_dvd (prodL_dvd q) _
theorem x_slStF {te tl ts : TE} {σ : L2.St} {H : Hp} {Q : VK} (h : te σ H fun x H1 => tl σ H1 fun l H2 => ∃ i : Int, l = .int i ∧ ts σ H2 fun st H4 => ∃ k : Int, st = .int k ∧ ∃ a xs, x = .ref a ∧ SqL K H4 a xs ∧ (some k : Option Int) ≠ some 0 ∧ (pickV xs (some i) none (some k)).length ≤ sizeLine ∧ ∀ p, H4 p = none → Q (.ref p) (upd H4 p (.lst (pickV xs (some i) none (some k))))) : tSlSt K te (tPart tl) tNoPart (tPart ts) σ H Q := h
theorem x_lcPreQ {σ : L2.St} {H : Hp} {Q : VK} {ta : TE} {j : Nat} {te : TE} {vs : List Nat} (h : ta σ H fun v H1 => tLc (iRng1 (tCons (tC v) tNil)) (gName j) tYes te vs σ H1 Q) : tLc (iRng1 (tCons ta tNil)) (gName j) tYes te vs σ H Q := h
/-- the coefficients of one line -/
def rowI (p s : Nat) (fs : List Int) (r : Nat) : List Int := (List.range s).map fun j => (colL p s j (fs.getD j 0)).getD r 0
def colI (ys : List Int) (s many c : Nat) : List Int := (List.range s).map fun j => ys.getD (c + many * j) 0
theorem rowI_rg {p s : Nat} {fs : List Int} {r : Nat} (hp : 2 ≤ p) (h9 : p ≤ 1000000000) : Rg 0 1000000000 (rowI p s fs r) := fun z hz => by
  obtain ⟨j, _, rfl⟩ := List.mem_map.mp hz
  rw [List.getD_eq_getElem?_getD]
  cases e : (colL p s j (fs.getD j 0))[r]? with
  | none => exact ⟨Int.le_refl _, by decide⟩
  | some v =>
    have hv := List.mem_of_getElem? e
    unfold colL at hv
    obtain ⟨c, _, rfl⟩ := List.mem_map.mp hv
    show 0 ≤ fs.getD j 0 * c % (p : Int) ∧ fs.getD j 0 * c % (p : Int) < 1000000000
    have h1 := Int.emod_nonneg (fs.getD j 0 * c) (show (p : Int) ≠ 0 by omega)
    have h2 := Int.emod_lt_of_pos (fs.getD j 0 * c) (show (0 : Int) < (p : Int) by omega)
    omega
theorem ok_coefficients (T : Txt K mg) : FnOk P w K mg base CX0 3 T.a_coefficients T.fd_coefficients ["contents", "sizes", "prime"] (sp_coefficients K) := by
  refine T.F_coefficients.ok sc_coefficients (fun vs H Q E h => ?_) (fun cdv A outer s H vs Q E hr h => ?_)
  · obtain ⟨a, b, xs, ss, p, rfl, _⟩ := h
    rfl
  · obtain ⟨a, b, xs, ss, p, rfl, ha, hb, hpr, hp9, hss, hl0, hl, hl4, q⟩ := h
    have hp2 : 2 ≤ p := hpr.1
    refine ⟨_, (pss_cons (ps_for PassesOwn.never rfl (pi_list (pv 1)) (pg_name (i := 3) sc_coefficients.nd rfl (Or.inl rfl))
      (pss_cons (ps_set (i := 4) sc_coefficients.nd rfl (.inr rfl) (pe_op op_fdiv (pe_callB (id := "len") (r := rLen K) cr_len (by rfl) T.m_len PySem.boot_len (pa_cons (pv 0) pa_nil)) (pv 3)))
      (pss_cons (ps_set (i := 5) sc_coefficients.nd rfl (.inr rfl) (pe_call (ok_rows_for T) hr (by rfl) T.g_rows_for T.F_rows_for.kp T.b_rows_for .nil pass0 (pa_cons (pv 3) (pa_cons (pv 2) pa_nil))))
      (pss_cons (ps_setLc (i := 6) (own := [("at", 7)]) (g := gName 7) (tt := tYes) rfl sc_coefficients.nd rfl rfl (sw_true rfl rfl rfl (by decide +kernel)) (pi_range1 (by rfl) T.m_range (pa_cons (pv 4) pa_nil)) (blkOk_by (N := N_coefficients) (sc := defScope s_coefficients) (by decide +kernel)) (fun _ _ _ _ _ => (pg_name (i := 7) sc_coefficients.nd rfl (Or.inl rfl))) (fun _ _ _ _ _ => pts_nil) (fun _ _ _ _ _ => (pe_slStK (K2 := K) rfl (pe_slSt (pv 0) (po_some (pv 7)) po_none (po_some (pv 4))))))
      (pss_one (ps_set (i := 0) sc_coefficients.nd rfl (.inr rfl) (pe_lc2 (own := [("column", 8), ("row", 9)]) (g := gName 8) (tt := tYes) (g1 := gName 9) (tt1 := tYes) (vs1 := [9]) rfl sc_coefficients.nd (pi_list (pv 6)) (blkOk_by (N := N_coefficients) (sc := defScope s_coefficients) (by decide +kernel)) (by decide) (fun _ _ _ _ _ => (pg_name (i := 8) sc_coefficients.nd rfl (Or.inl rfl))) (fun _ _ _ _ _ => pts_nil) (fun _ _ _ _ _ => (pi_listK (K2 := K) rfl (pv 5))) (fun _ _ _ _ _ => (pg_name (i := 9) sc_coefficients.nd rfl (Or.inl rfl))) (fun _ _ _ _ _ => pts_nil) (fun _ _ _ _ _ => (pe_op op_mod (pe_call (ok_combined T) (hr.mono (by decide)) (by rfl) T.g_combined T.F_combined.kp T.b_combined .nil pass0 (pa_cons (pv 9) (pa_cons (pv 8) pa_nil))) (pv 2))))))))))
      (pss_one (ps_ret (pv 0)))), ?_⟩
    walk_at "start"
    walk_at "x"
    refine x_forL (p := b) (nV ss) (fun k σ' H' => ∃ (cur : Addr) (ys : List Int) (v3 v4 v5 v6 v7 v8 v9 : Option V), σ' = [some (.ref cur), some (.ref b), some (.int (p : Int)), v3, v4, v5, v6, v7, v8, v9] ∧ Same H H' ∧ H' cur = some (.lst (ys.map V.int)) ∧ ys.length = xs.length) (fun R r => by walk_at "x"; exact r) (sq_of hb) ?_ (fun i σ' H' _ z => ?_) ?_ ?_
    · exact ⟨a, xs, _, _, _, _, _, _, _, rfl, Same.refl _, ha, rfl⟩
    · obtain ⟨_, _, _, _, _, _, _, _, _, _, hs, _⟩ := z
      exact sq_of (hs _ _ hb)
    · rintro k _ σ' H' hk ⟨cur, ys, v3, v4, v5, v6, v7, v8, v9, rfl, hs, hc, hyl⟩
      obtain ⟨s, hsk, rfl⟩ := map_getN hk
      obtain ⟨s1, s2, s3⟩ := hss s (List.mem_of_getElem? hsk)
      obtain ⟨many, hm⟩ := prodL_dvd (List.mem_of_getElem? hsk)
      rw [← hl] at hm
      walk_at "x"
      refine x_len (sq_of hc) ?_
      walk_at "x"
      rw [show ((ys.map V.int).length : Int) / (s : Int) = (many : Int) by rw [List.length_map, hyl, hm, Int.natCast_mul, Int.mul_ediv_cancel_left _ (by omega)]]
      refine ⟨s, p, rfl, s1, s3, hpr, s2, hp9, fun rl H2 Ts fs hrl hs2 hR hT hfl hF hTs => ?_⟩
      walk_at "x"
      have hN : ys.length = s * many := hyl.trans hm
      have hm4 : many ≤ 400000 := by
        have : many ≤ s * many := Nat.le_mul_of_pos_left _ s1
        omega
      have hc2 := hs2 _ _ hc
      refine x_lcPreQ ?_
      walk_at "x"
      refine x_lcR1 (many : Int) (fun P k H' => Same H2 H' ∧ ∃ cs : List Addr, H' P = some (.lst (cs.map V.ref)) ∧ cs.length = k ∧ ∀ (i : Nat) l, cs[i]? = some l → H' l = some (.lst ((colI ys s many i).map V.int)) ∧ l ≠ P) (fun R r => r) (by omega) (by omega) (fun P hP => ⟨same_upd hP, [], upd_same, rfl, fun i l h => by simp at h⟩) (fun _ => rfl) ?_ ?_
      · rintro P k H3 hP hk ⟨hs3, cs, hcs, hcl, hcol⟩
        have hk : k < many := by omega
        refine x_slStF ?_
        walk_at "x"
        refine ⟨_, rfl, ?_⟩
        walk_at "x"
        have ep : pickV (ys.map V.int) (some (k : Int)) none (some (many : Int)) = (colI ys s many k).map V.int := by
          rw [pick_from (n := s) (by rw [List.length_map, hN]) hk]
          unfold colI
          rw [List.map_map]
          apply List.map_congr_left
          intro j hj
          have hj := List.mem_range.mp hj
          refine getD_mapI ?_
          rw [hN]
          have h1 : many * j + many ≤ many * s := by rw [← Nat.mul_succ]; exact Nat.mul_le_mul_left _ hj
          rw [Nat.mul_comm s many]
          omega
        refine ⟨_, rfl, cur, _, rfl, sq_of (hs3 _ _ hc2), (fun q => by have := Option.some.inj q; omega), ?_, fun l hl => ?_⟩
        · rw [ep]
          unfold colI
          rw [List.length_map, List.length_map, List.length_range]
          exact Nat.le_trans s3 (by decide)
        rw [ep]
        have hPl : P ≠ l := ne_of_none hcs hl
        refine ⟨cs.map V.ref, by rw [upd_ne hPl]; exact hcs, Nat.lt_of_lt_of_le (show _ < 1000000 by rw [List.length_map]; omega) (by decide), sput (hs3.trans (same_upd hl)) hP, cs ++ [l], by rw [upd_same, List.map_append]; rfl, by rw [List.length_append, hcl]; rfl, fun i l' h => ?_⟩
        rcases snoc_at hcl h with ⟨_, h⟩ | ⟨rfl, rfl⟩
        · obtain ⟨h1, h2⟩ := hcol i l' h
          exact ⟨by rw [upd_ne h2]; exact (same_upd hl) _ _ h1, h2⟩
        · exact ⟨by rw [upd_ne (Ne.symm hPl)]; exact upd_same, Ne.symm hPl⟩
      rintro P H3 hP ⟨hs3, cs, hcs, hcl, hcol⟩
      rw [Int.toNat_natCast] at hcl
      walk_at "x"
      refine x_lc2LL (a := P) (b := rl) (xs := cs.map V.ref) (ys := Ts.map V.ref) (fun c r => V.int ((List.zipWith (· * ·) (rowI p s fs r) (colI ys s many c)).sum % (p : Int))) (fun R r => by walk_at "x"; exact r) (fun x H' R r => by walk_at "x"; exact r) hcs (hs3 _ _ hR) (by rw [List.length_map, List.length_map, hcl, hT, Nat.mul_comm, ← hm]; omega) (fun _ => rfl) (fun _ _ => rfl) ?_ ?_
      · rintro c r _ _ H4 R hs4 hx hy hRR
        obtain ⟨l, gl, rfl⟩ := map_getR hx
        obtain ⟨t, gt, rfl⟩ := map_getR hy
        walk_at "x"
        refine ⟨t, l, rowI p s fs r, colI ys s many c, rfl, hs4 _ _ (hs3 _ _ (hTs r t gt)), hs4 _ _ (hcol c l gl).1, by unfold rowI colI; simp, by unfold rowI; simp; omega, rowI_rg hp2 hp9, fun H5 hs5 => ?_⟩
        walk_at "x"
        exact hRR H5 hs5
      rintro l H4 hl hs4 hL
      walk_at "x"
      refine ⟨l, _, _, _, _, _, _, _, _, rfl, ((hs.trans hs2).trans hs3).trans hs4, by rw [hL, flat2_int], ?_⟩
      rw [flatI_len, List.length_map, List.length_map, hT, hcl, hm, Nat.mul_comm]
    · rintro σ' H' ⟨cur, ys, v3, v4, v5, v6, v7, v8, v9, rfl, hs, hc, hyl⟩
      walk_at "x"
      exact q cur ys H' hs hc hyl


/-- the terms' number is all that is told of them here -/
def sp_terms (K : PySem.W.Frag) : Sp := fun vs H Q _ => ∃ (a b : Addr) (ys : List Int) (ss : List Nat), vs = [.ref a, .ref b] ∧ H a = some (.lst (ys.map V.int)) ∧ H b = some (.lst (nV ss)) ∧ (∀ s ∈ ss, 0 < s) ∧ ss.length ≤ 1000 ∧ ys.length = prodL ss ∧ ys.length ≤ 400000 ∧
  ∀ l H', Same H H' → Q (.ref l) H'
theorem ok_terms (T : Txt K mg) : FnOk P w K mg base CX0 6 T.a_terms T.fd_terms ["numbers", "sizes"] (sp_terms K) := by
  refine T.F_terms.ok sc_terms (fun vs H Q E h => ?_) (fun cdv A outer s H vs Q E hr h => ?_)
  · obtain ⟨a, b, ys, ss, rfl, _⟩ := h
    rfl
  · obtain ⟨a, b, ys, ss, rfl, ha, hb, hss, hl0, hl, hl4, q⟩ := h
    refine ⟨_, (pss_one (ps_ret (pe_lcZ (own := [("exponents", 2), ("number", 3)]) (g := gTup K 2 (gCons (gName 2) (gCons (gName 3) gNil))) (tt := _) (j := 0) (ok_grid_points T) (hr.mono (by decide)) (by rfl) T.g_grid_points T.F_grid_points.kp T.b_grid_points (pa_cons (pv 1) pa_nil) (by rfl) T.m_zip rfl (.inl rfl) rfl sc_terms.nd (blkOk_by (N := N_terms) (sc := defScope s_terms) (by decide +kernel)) (fun _ _ _ _ _ => (pg_tup rfl (pgs_cons (pg_name (i := 2) sc_terms.nd rfl (Or.inl rfl)) (pgs_cons (pg_name (i := 3) sc_terms.nd rfl (Or.inl rfl)) pgs_nil)))) (fun _ _ _ _ _ => (pts_one (pt_cmpR op_ne (pv 3) pe_int (nomark _)))) (fun _ _ _ _ _ => (pe_tup (pa_cons (pv 2) (pa_cons (pv 3) pa_nil))))))), ?_⟩
    walk_at "start"
    walk_at "x"
    refine x_lcZ ?_
    walk_at "x"
    refine ⟨[(b, nV ss)], prodL ss, fun i => nV (dg ss i), ⟨b, ss, rfl, hb, hss, hl0, rfl, rfl, rfl⟩, fun p hp => by rw [List.mem_singleton.mp hp]; exact hb, a, _, rfl, ha, by rw [List.length_map]; exact hl, fun D hD => ⟨fun i H' => Same H H' ∧ ∃ acc : List V, H' D = some (.lst acc) ∧ acc.length ≤ i, ⟨same_upd hD, [], upd_same, Nat.le_refl _⟩, fun i H' _ hw => ⟨fun p hp => by rw [List.mem_singleton.mp hp]; exact hw.1 _ _ hb, hw.1 _ _ ha⟩, ?_, fun H' hw => q D H' hw.1⟩⟩
    rintro i H' hi ⟨hs, acc, hacc, hal⟩ r T y hy hr hTr hT
    obtain ⟨z, hz, rfl⟩ := map_get hy
    refine x_gTup2 (st_of upd_same) ⟨rfl, ?_⟩
    have s1 := same_upd (o := .tup (nV (dg ss i))) hr
    have s2 := s1.trans (same_upd (o := .tup [.ref r, .int z]) (show (upd H' r (.tup (nV (dg ss i)))) T = none by rw [upd_ne hTr]; exact hT))
    generalize upd (upd H' r (.tup (nV (dg ss i)))) T (.tup [.ref r, .int z]) = H2 at s2
    walk_at "x"
    by_cases h0 : z = 0
    · subst h0
      walk_at "f"
      exact ⟨hs.trans s2, acc, s2 _ _ hacc, by omega⟩
    · have e : (!decide (z = 0)) = true := by rw [decide_eq_false h0]; rfl
      rw [e]
      walk_at "t"
      refine ⟨by show 2 ≤ sizeLine; decide, fun p hp => ?_⟩
      have s3 := s2.trans (same_upd (o := .tup [.ref r, .int z]) hp)
      exact ⟨acc, s3 _ _ hacc, Nat.lt_of_le_of_lt hal (Nat.lt_of_lt_of_le (show i < 400001 by omega) (by decide)), sput (hs.trans s3) hD, _, upd_same, by rw [List.length_append]; show acc.length + 1 ≤ _; omega⟩


/-- the degrees of a cell's own content -/
def dU (n k : Nat) : List Int := (List.range n).map fun v => if v = k then 1 else 0
theorem dU_len {n k : Nat} : (dU n k).length = n := by unfold dU; rw [List.length_map, List.length_range]
theorem dU_get {n k v : Nat} {x : Int} (h : (dU n k)[v]? = some x) : x = 0 ∨ x = 1 := by
  have := List.mem_of_getElem? h
  unfold dU at this
  obtain ⟨u, _, rfl⟩ := List.mem_map.mp this
  by_cases e : u = k
  · rw [if_pos e]; exact .inr rfl
  · rw [if_neg e]; exact .inl rfl
theorem zw_left : ∀ {xs ys : List Int}, xs.length = ys.length → List.zipWith (fun x _ => x) xs ys = xs
  | [], _, _ => rfl
  | _ :: _, [], h => by simp at h
  | x :: xs, y :: ys, h => by rw [List.zipWith_cons_cons, zw_left (by simpa using h)]
theorem x_slFromP {te tl : TE} {σ : L2.St} {H : Hp} {Q : VK} (h : te σ H fun x H1 => tl σ H1 fun v H2 => ∃ i : Int, v = .int i ∧ ∃ a xs, x = .ref a ∧ SqL K H2 a xs ∧ ∀ p, H2 p = none → Q (.ref p) (upd H2 p (.lst (cutV xs (some i) none)))) : tSl (rSlL K) te (tPart tl) tNoPart σ H Q := h
def sp_degrees_of (C : Addr) (K : PySem.W.Frag) : Sp := fun vs H Q _ => ∃ (p L : Addr) (as : List Addr) (ss : List Stp) (m c i : Nat), vs = [.ref p] ∧ PrAt K C H p L as ss m c i ∧ PrOk ss m c i ∧ (∀ s ∈ ss, ∃ t, s = .add t 0 []) ∧
  ∀ l (ds : List Addr) H', Same H H' → H' l = some (.lst (ds.map V.ref)) → ds.length = c → (∀ (k : Nat) d, ds[k]? = some d → H' d = some (.lst ((List.range (i + c)).map fun v => V.int (if v = i + k then 1 else 0)))) → Q (.ref l) H'
theorem ok_degrees_of (T : Txt K mg) : FnOk P w K mg base CX0 1 T.a_degrees_of T.fd_degrees_of ["program"] (sp_degrees_of T.C_Program K) := by
  refine T.F_degrees_of.ok sc_degrees_of (fun vs H Q E h => ?_) (fun cdv A outer s H vs Q E hr h => ?_)
  · obtain ⟨p, L, as, ss, m, c, i, rfl, _⟩ := h
    rfl
  · obtain ⟨p, L, as, ss, m, c, i, rfl, hP, ok, hss, q⟩ := h
    obtain ⟨dx, hp, hC⟩ := id hP.ob
    refine ⟨_, (pss_cons (ps_asg (pe_tup (pa_cons (pe_fld (pv 0) rfl) (pa_cons (pe_fld (pv 0) rfl) pa_nil))) (pg_tup rfl (pgs_cons (pg_name (i := 1) sc_degrees_of.nd rfl (Or.inr rfl)) (pgs_cons (pg_name (i := 2) sc_degrees_of.nd rfl (Or.inr rfl)) pgs_nil))))
      (pss_cons (ps_set (i := 3) sc_degrees_of.nd rfl (.inr rfl) (pe_op op_add (pv 1) (pe_fld (pv 0) rfl)))
      (pss_cons (ps_set (i := 4) sc_degrees_of.nd rfl (.inr rfl) (pe_lc (own := [("own", 13)]) (g := gName 13) (tt := tYes) rfl sc_degrees_of.nd (pi_range1 (by rfl) T.m_range (pa_cons (pv 3) pa_nil)) (blkOk_by (N := N_degrees_of) (sc := defScope s_degrees_of) (by decide +kernel)) (fun _ _ _ _ _ => (pg_name (i := 13) sc_degrees_of.nd rfl (Or.inr rfl))) (fun _ _ _ _ _ => pts_nil) (fun _ _ _ _ _ => (pe_lc (own := [("variable", 14)]) (g := gName 14) (tt := tYes) rfl sc_degrees_of.nd (pi_range1 (by rfl) T.m_range (pa_cons (pv 3) pa_nil)) (blkOk_by (by kernel_rfl)) (fun _ _ _ _ _ => (pg_name (i := 14) sc_degrees_of.nd rfl (Or.inl rfl))) (fun _ _ _ _ _ => pts_nil) (fun _ _ _ _ _ => (pe_ifExp (pt_cmpR op_eq (pv 14) (pv 13) (nomark _)) pe_int pe_int))))))
      (pss_cons (ps_for PassesOwn.never rfl (pi_list (pe_fld (pv 0) rfl)) (pg_name (i := 5) sc_degrees_of.nd rfl (Or.inl rfl))
      (pss_one (ps_match (pv 5) (pcs_seq rfl op_eq (pcap_name 6 sc_degrees_of.nd rfl (.inl rfl) (pcap_wild (pcap_name 7 sc_degrees_of.nd rfl (.inl rfl) pcap_nil)))
      (pss_cons (ps_set (i := 8) sc_degrees_of.nd rfl (.inr rfl) (pe_lc (own := [("place", 15), ("at", 16)]) (g := gTup K 2 (gCons (gName 15) (gCons (gName 16) gNil))) (tt := tYes) rfl sc_degrees_of.nd (pi_tup (pv 7)) (blkOk_by (N := N_degrees_of) (sc := defScope s_degrees_of) (by decide +kernel)) (fun _ _ _ _ _ => (pg_tup rfl (pgs_cons (pg_name (i := 15) sc_degrees_of.nd rfl (Or.inl rfl)) (pgs_cons (pg_name (i := 16) sc_degrees_of.nd rfl (Or.inl rfl)) pgs_nil)))) (fun _ _ _ _ _ => pts_nil) (fun _ _ _ _ _ => (pe_ix (r := rIxL K) ix_list (pv 4) (pe_ifExp (pt_cmpR op_eq (pv 15) pe_str (nomark _)) (pv 16) (pe_op op_add (pv 1) (pv 16))) (fun _ _ => rfl)))))
      (pss_cons (ps_setLc (i := 9) (own := [("variable", 14)]) (g := gName 14) (tt := tYes) rfl sc_degrees_of.nd rfl rfl (sw_true rfl rfl rfl (by decide +kernel)) (pi_range1 (by rfl) T.m_range (pa_cons (pv 3) pa_nil)) (blkOk_by (N := N_degrees_of) (sc := defScope s_degrees_of) (by decide +kernel)) (fun _ _ _ _ _ => (pg_name (i := 14) sc_degrees_of.nd rfl (Or.inr rfl))) (fun _ _ _ _ _ => pts_nil) (fun _ _ _ _ _ => (pe_callB (id := "sum") (r := rSum K) (cr_sum rfl) (by rfl) T.m_sum (by decide +kernel) (pa_cons (pe_lc (own := [("part", 18)]) (g := gName 18) (tt := tYes) rfl sc_degrees_of.nd (pi_listK (K2 := K) rfl (pv 8)) (blkOk_by (by kernel_rfl)) (fun _ _ _ _ _ => (pg_name (i := 18) sc_degrees_of.nd rfl (Or.inl rfl))) (fun _ _ _ _ _ => pts_nil) (fun _ _ _ _ _ => (pe_ix (r := rIxL K) ix_list (pv 18) (pv 14) (fun _ _ => rfl)))) pa_nil))))
      (pss_cons (ps_set (i := 10) sc_degrees_of.nd rfl (.inl rfl) (pe_ix (r := rIxL K) ix_list (pv 4) (pe_op op_add (pv 1) (pv 6)) (fun _ _ => rfl)))
      (pss_one (ps_asg (pe_lc (own := [("pair", 17)]) (g := gName 17) (tt := tYes) rfl sc_degrees_of.nd (pi_zipP (by rfl) T.m_zip (pa_cons (pv 10) (pa_cons (pv 9) pa_nil))) (blkOk_by (N := N_degrees_of) (sc := defScope s_degrees_of) (by decide +kernel)) (fun _ _ _ _ _ => (pg_name (i := 17) sc_degrees_of.nd rfl (Or.inl rfl))) (fun _ _ _ _ _ => pts_nil) (fun _ _ _ _ _ => (pe_callB (id := "min") (r := rMin2) (cr_min2 rfl) (by rfl) T.m_min (by decide +kernel) (pa_cons (pe_op op_sub (pv 2) pe_int) (pa_cons (pe_callB (id := "max") (r := rMaxT K) (cr_maxT rfl) (by rfl) T.m_max (by decide +kernel) (pa_cons (pv 17) pa_nil)) pa_nil))))) (pg_sub (pv 4) (pe_op op_add (pv 1) (pv 6)) set_list))))))
      (pcs_seq rfl op_eq (pcap_name 11 sc_degrees_of.nd rfl (.inl rfl) (pcap_name 12 sc_degrees_of.nd rfl (.inl rfl) pcap_nil))
      (pss_one ps_never)
      pcs_nil)))))
      (pss_one (ps_ret (pe_slice (r := rSlL K) sl_list (pv 4) (po_some (pv 1)) po_none))))))), ?_⟩
    walk_at "start"
    walk_at "x"
    have m2 := ok.m2
    have m9 := ok.m9
    have c60 := ok.c60
    have i60 := ok.i60
    refine x_fldR hp hC.cl hC.i progF_i ?_
    walk_at "x"
    refine x_fldR hp hC.cl hC.m progF_m ?_
    walk_at "x"
    refine ⟨by show 2 ≤ sizeLine; decide, fun t0 ht0 => ?_⟩
    have s1 := same_upd (o := .tup [.int (i : Int), .int (m : Int)]) ht0
    refine x_gTup2 (st_of upd_same) ?_
    generalize upd H t0 (.tup [.int (i : Int), .int (m : Int)]) = H1 at s1
    walk_at "x"
    refine x_fldR (s1 _ _ hp) hC.cl hC.c progF_c ?_
    walk_at "x"
    rw [← Int.natCast_add]
    obtain ⟨n, hn⟩ : ∃ n, n = i + c := ⟨_, rfl⟩
    rw [← hn]
    have hn120 : n ≤ 120 := by omega
    refine x_lcPreQ ?_
    walk_at "x"
    refine x_lcR1 (n : Int) (fun P k H' => Same H1 H' ∧ ∃ ds : List Addr, H' P = some (.lst (ds.map V.ref)) ∧ ds.length = k ∧ ∀ (j : Nat) d, ds[j]? = some d → H' d = some (.lst ((dU n j).map V.int)) ∧ d ≠ P) (fun R r => r) (by omega) (by omega) (fun P hP => ⟨same_upd hP, [], upd_same, rfl, fun j d h => by simp at h⟩) (fun _ => rfl) ?_ ?_
    · rintro P k H' hP hk ⟨hs, ds, hD, hdl, hds⟩
      have hk : k < n := by omega
      refine x_lcPreQ ?_
      walk_at "x"
      refine x_lcR1 (n : Int) (fun q v H'' => Same H' H'' ∧ H'' q = some (.lst (((List.range v).map fun u => if u = k then (1 : Int) else 0).map V.int))) (fun R r => r) (by omega) (by omega) (fun q hq => ⟨same_upd hq, upd_same⟩) (fun _ => rfl) ?_ ?_
      · rintro q v H'' hq hv ⟨hs2, hw⟩
        have hv : v < n := by omega
        walk_at "x"
        have fin : ∀ z : Int, z = (if v = k then 1 else 0) → ∃ acc, H'' q = some (.lst acc) ∧ acc.length < sizeLine ∧ Same H' (upd H'' q (.lst (acc ++ [V.int z]))) ∧ (upd H'' q (.lst (acc ++ [V.int z]))) q = some (.lst (((List.range (v + 1)).map fun u => if u = k then (1 : Int) else 0).map V.int)) := fun z hz =>
          ⟨_, hw, Nat.lt_of_lt_of_le (show _ < 1000 by rw [List.length_map, List.length_map, List.length_range]; omega) (by decide), sput hs2 hq, by rw [upd_same, List.range_succ, List.map_append, List.map_append, hz]; rfl⟩
        by_cases e : v = k
        · have e' : decide ((v : Int) = (k : Int)) = true := decide_eq_true (by omega)
          rw [e']
          walk_at "t"
          exact fin 1 (by rw [if_pos e])
        · have e' : decide ((v : Int) = (k : Int)) = false := decide_eq_false (by omega)
          rw [e']
          walk_at "f"
          exact fin 0 (by rw [if_neg e])
      rintro q H'' hq ⟨hs2, hw⟩
      rw [Int.toNat_natCast] at hw
      have hPq : P ≠ q := ne_of_none hD hq
      refine ⟨ds.map V.ref, hs2 _ _ hD, Nat.lt_of_lt_of_le (show _ < 1000 by rw [List.length_map]; omega) (by decide), sput (hs.trans hs2) hP, ds ++ [q], by rw [upd_same, List.map_append]; rfl, by rw [List.length_append, hdl]; rfl, fun j d h => ?_⟩
      rcases snoc_at hdl h with ⟨_, h⟩ | ⟨rfl, rfl⟩
      · obtain ⟨h1, h2⟩ := hds j d h
        exact ⟨by rw [upd_ne h2]; exact hs2 _ _ h1, h2⟩
      · exact ⟨by rw [upd_ne (Ne.symm hPq)]; exact hw, Ne.symm hPq⟩
    rintro D H2 hD ⟨hs2, ds, hDl, hdl, hds⟩
    rw [Int.toNat_natCast] at hdl
    have hDH : H D = none := by
      cases e : H D with
      | none => rfl
      | some o => rw [s1 _ _ e] at hD; cases hD
    have s2 := s1.trans hs2
    walk_at "x"
    refine x_forPreP ?_
    walk_at "x"
    refine x_fldR (s2 _ _ hp) hC.cl hC.s progF_s ?_
    refine x_forL (p := L) (as.map V.ref) (fun k σ' H' => ∃ (v5 v6 v7 v8 v9 v10 v11 v12 v13 v14 v15 v16 v17 v18 : Option V) (ds : List Addr), σ' = [some (.ref p), some (.int (i : Int)), some (.int (m : Int)), some (.int (n : Int)), some (.ref D), v5, v6, v7, v8, v9, v10, v11, v12, v13, v14, v15, v16, v17, v18] ∧ Same H H' ∧ H' D = some (.lst (ds.map V.ref)) ∧ ds.length = n ∧ ∀ (j : Nat) d, ds[j]? = some d → H' d = some (.lst ((dU n j).map V.int)) ∧ d ≠ D) (fun R r => r) (sq_of (s2 _ _ hP.lst)) ⟨_, _, _, _, _, _, _, _, _, _, _, _, _, _, ds, rfl, s2, hDl, hdl, hds⟩ (fun k σ' H' _ z => ?_) ?_ ?_
    · obtain ⟨_, _, _, _, _, _, _, _, _, _, _, _, _, _, _, _, z, _⟩ := z
      exact sq_of (z _ _ hP.lst)
    · rintro k x σ' H3 hx ⟨v5, v6, v7, v8, v9, v10, v11, v12, v13, v14, v15, v16, v17, v18, ds, rfl, s3, hDl, hdl, hds⟩
      obtain ⟨b, hb, rfl⟩ := map_getR hx
      obtain ⟨s, hs1, hs2⟩ := hP.st.get hb
      obtain ⟨t, rfl⟩ := hss s (List.mem_of_getElem? hs1)
      have oks := ok.ok _ (List.mem_of_getElem? hs1)
      have ht : t < c := oks.1
      obtain ⟨f, fa, h1, h2, hfl, _⟩ := hs2.tups (Tups.same s3)
      obtain rfl : fa = [] := List.length_eq_zero_iff.mp hfl
      walk_at "x"
      refine x_caseY (st_of h1) rfl ?_
      walk_at "xb"
      refine x_lcT0 (a := f) (fun R r => by walk_at "x"; exact r) h2 fun pl H4 hpl s4 hPl => ?_
      walk_at "x"
      refine x_lcPreQ ?_
      walk_at "x"
      refine x_lcR1 (n : Int) (fun q v H'' => Same H4 H'' ∧ H'' q = some (.lst ((List.replicate v (0 : Int)).map V.int))) (fun R r => r) (by omega) (by omega) (fun q hq => ⟨same_upd hq, upd_same⟩) (fun _ => rfl) ?_ ?_
      · rintro q v H'' hq hv ⟨hs5, hw⟩
        walk_at "x"
        refine x_lcPreP ?_
        walk_at "x"
        refine x_lcLI (xs := []) (fun x => x) (hs5 _ _ hPl) (Nat.zero_le _) (fun _ => rfl) (fun k x H' R _ h => by simp at h) fun l H' hl s6 hL => ?_
        walk_at "x"
        refine ⟨l, [], rfl, sq_of hL, ?_⟩
        refine ⟨_, s6 _ _ hw, Nat.lt_of_lt_of_le (show _ < 1000 by rw [List.length_map, List.length_replicate]; omega) (by decide), sput (hs5.trans s6) hq, ?_⟩
        rw [upd_same, List.replicate_succ', List.map_append]
        rfl
      rintro ad H5 had ⟨s5, hA⟩
      rw [Int.toNat_natCast] at hA
      have s35 := s4.trans s5
      walk_at "x"
      have hit : ds[i + t]? = some (ds[i + t]'(by omega)) := List.getElem?_eq_getElem _
      generalize ds[i + t]'(by omega) = d at hit
      obtain ⟨hd1, hd2⟩ := hds _ _ hit
      rw [← Int.natCast_add]
      refine x_ixL (v := .ref d) (sq_of (s35 _ _ hDl)) (atI_nat (by rw [List.getElem?_map, hit]; rfl)) ?_
      walk_at "x"
      refine x_zipPreP ?_
      walk_at "x"
      refine x_zipPair (fun x _ => x) (s35 _ _ hd1) hA (by rw [dU_len, List.length_replicate]) (by rw [dU_len]; omega) (fun _ => rfl) (fun v x y T H' R hs hx hy hT hR => ?_) fun u H6 hu s6 hU => ?_
      · have hx := dU_get hx
        have hy : y = 0 := by
          have := List.mem_of_getElem? hy
          exact (List.mem_replicate.mp this).2
        subst hy
        walk_at "x"
        refine ⟨T, [x, 0], rfl, st_of hT, (by show 0 < 2; decide), fun M hM1 hM2 => ?_⟩
        have hM : M = x := by
          have h3 := hM2 x (by simp)
          have h4 := hM2 0 (by simp)
          simp at hM1
          rcases hM1 with q | q
          · exact q
          · omega
        subst hM
        refine x_min2 ?_
        rw [show (if M < (m : Int) - 1 then M else (m : Int) - 1) = M by
          by_cases q : M < (m : Int) - 1
          · rw [if_pos q]
          · rw [if_neg q]; omega]
        exact hR
      walk_at "x"
      rw [zw_left (by rw [dU_len, List.length_replicate])] at hU
      have s36 := s35.trans s6
      rw [← Int.natCast_add]
      refine x_subL (k := i + t) (s36 _ _ hDl) (by rw [List.length_map]; exact ixN_nat (by omega)) ?_
      have huD : u ≠ D := fun q => by rw [q, s35 _ _ hDl] at hu; cases hu
      refine ⟨_, _, _, _, _, _, _, _, _, _, _, _, _, _, ds.set (i + t) u, rfl, sput (s3.trans s36) hDH, by rw [upd_same, List.map_set], by rw [List.length_set]; exact hdl, fun j e h => ?_⟩
      by_cases q : i + t = j
      · subst q
        rw [List.getElem?_set_self (by omega)] at h
        cases h
        exact ⟨by rw [upd_ne huD]; exact hU, huD⟩
      · rw [List.getElem?_set_ne q] at h
        obtain ⟨h3, h4⟩ := hds j e h
        exact ⟨by rw [upd_ne h4]; exact s36 _ _ h3, h4⟩
    · rintro σ' H3 ⟨v5, v6, v7, v8, v9, v10, v11, v12, v13, v14, v15, v16, v17, v18, ds, rfl, s3, hDl, hdl, hds⟩
      walk_at "x"
      refine x_slFromP ?_
      walk_at "x"
      refine ⟨_, rfl, D, _, rfl, sq_of hDl, fun l hl => ?_⟩
      rw [cutV_from (by rw [List.length_map]; omega), ← List.map_drop]
      refine q l (ds.drop i) _ (s3.trans (same_upd hl)) upd_same (by rw [List.length_drop]; omega) fun k d h => ?_
      rw [List.getElem?_drop] at h
      have := (same_upd (o := .lst ((ds.drop i).map V.ref)) hl) _ _ (hds _ _ h).1
      rw [this, hn]
      unfold dU
      rw [List.map_map]
      congr 2


end
end Br
namespace Br
open PySem PySem.Spec PyProof.Rows L2
local macro_rules | `(tactic| walk_at "x1") => `(tactic| (with_reducible first
  | refine Br.x_seq ?_ | refine Br.x_set ?_ | refine Br.x_asg ?_ | refine Br.x_next ?_ | refine Br.x_ret ?_ | refine Br.x_retN ?_ | refine Br.x_drop ?_ | refine Br.x_if ?_ | refine Br.x_brk ?_ | refine Br.x_cont ?_
  | refine Br.x_c ?_ | refine Br.x_op ?_ | refine Br.x_un ?_ | refine Br.x_I0 ?_ | refine Br.x_U ?_ | refine Br.x_EqI ?_ | refine Br.x_NeI ?_ | refine Br.x_EqB ?_ | refine Br.x_iN ?_ | refine Br.x_int1 ?_ | refine Br.x_min2 ?_ | refine Br.x_max2 ?_ | refine Br.x_nN ?_ | refine Br.x_ifE ?_
  | refine Br.x_test (b := ()) ?_ | refine Br.x_tB ?_ | refine Br.x_bl ?_ | refine Br.x_and ?_ | refine Br.x_or ?_ | refine Br.x_not ?_ | refine Br.x_andV ?_ | refine Br.x_orV ?_ | refine Br.x_notV ?_ | refine Br.x_blP ?_
  | refine Br.x_nil ?_ | refine Br.x_cons ?_ | refine Br.x_call ?_ | refine Br.x_CB ?_ | refine Br.x_BM ?_ | refine Br.x_tup ?_ | refine Br.x_lst ?_ | refine Br.x_chain ?_ | refine Br.x_par ?_ | refine Br.x_gSub ?_ | refine Br.x_gName ?_ | refine Br.x_fld ?_ | refine Br.x_fldS ?_ | refine Br.x_match ?_ | refine Br.x_else ?_ | refine Br.x_noCase ?_))
local macro_rules | `(tactic| walk_at "xv") => `(tactic| ((with_reducible refine' Br.x_var ?hvar ?_); (case hvar => rfl)))
local macro_rules | `(tactic| walk_at "xd") => `(tactic| (dsimp only [List.set_cons_zero, List.set_cons_succ, List.cons_append, List.nil_append, List.append_nil]))
local macro_rules | `(tactic| walk_at "xi") => `(tactic| ((with_reducible refine Br.x_I ?hside ?_); (case hside => first | exact Br.mul_r (by decide) (by decide) | exact Br.mul_l (by decide) (by decide) | exact Br.mul_l (by omega) (by omega) | exact Br.mul_r (by omega) (by omega) | (show (0 : Int) < _; first | decide | omega) | exact ⟨by decide, by decide⟩ | exact ⟨by omega, by omega⟩ | exact ⟨by decide, by decide, by decide⟩)))
local macro_rules | `(tactic| walk_at "x") => `(tactic| (repeat (first | walk_at "x1" | walk_at "xv" | walk_at "xi" | walk_at "xd")))
local macro_rules | `(tactic| walk_at "start") => `(tactic| (simp only [L2.start, List.map_cons, List.map_nil, List.length_cons, List.length_nil, Nat.reduceAdd, Nat.reduceSub, List.replicate, List.cons_append, List.nil_append, List.append_nil]))
local macro_rules | `(tactic| walk_at "isi") => `(tactic| first
  | refine Br.x_isi (b := true) (.base (.int _)) (by decide +kernel) ?_ | refine Br.x_isi (b := false) (.base (.int _)) (by decide +kernel) ?_
  | refine Br.x_isi (b := true) (.base (.bl _)) (by decide +kernel) ?_ | refine Br.x_isi (b := false) (.base (.bl _)) (by decide +kernel) ?_
  | refine Br.x_isi (b := false) (.base .non) (by decide +kernel) ?_
  | refine Br.x_isi (b := true) (.base (.str _)) (by decide +kernel) ?_ | refine Br.x_isi (b := false) (.base (.str _)) (by decide +kernel) ?_
  | refine Br.x_isi (b := true) (.base (.tup (by assumption))) (by decide +kernel) ?_ | refine Br.x_isi (b := false) (.base (.tup (by assumption))) (by decide +kernel) ?_
  | refine Br.x_isi (b := true) (.base (.lst (by assumption))) (by decide +kernel) ?_ | refine Br.x_isi (b := false) (.base (.lst (by assumption))) (by decide +kernel) ?_)
local macro_rules | `(tactic| walk_at "f") => `(tactic| (refine L2.iteF ?_; walk_at "x"))
local macro_rules | `(tactic| walk_at "t") => `(tactic| (refine L2.iteT ?_; walk_at "x"))
local macro_rules | `(tactic| walk_at "is") => `(tactic| (walk_at "isi"; walk_at "x"))
local macro_rules | `(tactic| walk_at "xb") => `(tactic| (simp only [Br.bindS, List.set_cons_zero, List.set_cons_succ]; walk_at "x"))

section
variable {P : Program} {w : World} {K : PySem.W.Frag} {mg : Str → Option Value} {base : Heap}

open Br Br.F
theorem isB_someK {t : V} {b : Int} (h : isB t b = true) : ∃ i : Int, t = .int i ∧ 0 ≤ i ∧ i < b := by
  cases t with
  | int i =>
    have h : (decide (0 ≤ i) && decide (i < b)) = true := h
    rw [Bool.and_eq_true, decide_eq_true_iff, decide_eq_true_iff] at h
    exact ⟨i, rfl, h.1, h.2⟩
  | _ => cases h
theorem isB_nat {v : V} {c : Nat} (h : isB v (c : Int) = true) : ∃ t : Nat, v = .int (t : Int) ∧ t < c := by
  obtain ⟨i, rfl, h0, h1⟩ := isB_someK h
  exact ⟨i.toNat, by rw [Int.toNat_of_nonneg h0], by omega⟩
theorem prime_N {m : Nat} (h : PrimeI (m : Int)) : IsPrime m := by
  obtain ⟨h2, hd⟩ := h
  have h2 : 2 ≤ m := by omega
  have no : ∀ d : Nat, 2 ≤ d → d * d ≤ m → d ∣ m → False := fun d d2 dd dv => by
    refine hd (d : Int) (by omega) (by rw [← Int.natCast_mul]; omega) ?_
    exact Int.emod_eq_zero_of_dvd (Int.ofNat_dvd.mpr dv)
  refine ⟨h2, fun d dv => ?_⟩
  obtain ⟨e, he⟩ := id dv
  have d0 : d ≠ 0 := fun z => by rw [z, Nat.zero_mul] at he; omega
  have e0 : e ≠ 0 := fun z => by rw [z, Nat.mul_zero] at he; omega
  by_cases d1 : d = 1
  · exact .inl d1
  by_cases e1 : e = 1
  · exact .inr (by rw [e1, Nat.mul_one] at he; exact he.symm)
  rcases Nat.le_total d e with h | h
  · exact (no d (by omega) (by rw [he]; exact Nat.mul_le_mul_left _ h) dv).elim
  · exact (no e (by omega) (by rw [he]; exact Nat.mul_le_mul_right _ h) ⟨d, by rw [he, Nat.mul_comm]⟩).elim
theorem x_forPreJ {σ : L2.St} {H : Hp} {D : Ends} {ta : TE} {g : TG} {tb : TS} (h : ta σ H fun v H1 => tFor (iRng1 (tCons (tC v) tNil)) g tb D σ H1) : tFor (iRng1 (tCons ta tNil)) g tb D σ H := h
theorem x_slAJ {K : PySem.W.Frag} {a : Addr} {xs : List V} {lo hi : Option Int} {H : Hp} {Q : VK} (hp : H a = some (.tup xs)) (q : ∀ r H', Same H H' → H' r = some (.tup (cutV xs lo hi)) → Q (.ref r) H') : rSlA K (.ref a) lo hi H Q := by
  refine ⟨a, xs, rfl, st_of hp, fun h => q a H (Same.refl _) ?_, fun _ p hn => q p _ (same_upd hn) upd_same⟩
  rw [hp]
  unfold cutV
  rw [h.1, h.2, List.drop_zero, Nat.sub_zero, List.take_length]
theorem x_lcPreJ {te : TE} {ta : TE} {j : Nat} {vs : List Nat} {σ : L2.St} {H : Hp} {Q : VK} (h : ta σ H fun v H1 => tLc (iList K (tC v)) (gName j) tYes te vs σ H1 Q) : tLc (iList K ta) (gName j) tYes te vs σ H Q := h
theorem x_slTo {r : V → Option Int → Option Int → Hp → VK → Prop} {te th : TE} {σ : L2.St} {H : Hp} {Q : VK} (h : te σ H fun x H1 => th σ H1 fun v H2 => ∃ i, v = .int i ∧ r x none (some i) H2 Q) : tSl r te tNoPart (tPart th) σ H Q := h
theorem x_slFrom {r : V → Option Int → Option Int → Hp → VK → Prop} {te tl : TE} {σ : L2.St} {H : Hp} {Q : VK} (h : te σ H fun x H1 => tl σ H1 fun v H2 => ∃ i, v = .int i ∧ r x (some i) none H2 Q) : tSl r te (tPart tl) tNoPart σ H Q := h
theorem x_forG {spec : SpG4} {t : TA} {g : TG} {tb : TS} {D : Ends} {σ : L2.St} {H : Hp} (h : t σ H fun vs H1 => ∃ sh n items, spec vs H1 sh n items ∧ (∀ p ∈ sh, H1 p.1 = some (.lst p.2)) ∧ ∃ W : Nat → L2.St → Hp → Prop, W 0 σ H1 ∧ (∀ i σ' H', i ≤ n → W i σ' H' → ∀ p ∈ sh, H' p.1 = some (.lst p.2)) ∧
    (∀ i σ' H', i < n → W i σ' H' → ∀ r, H' r = none → g (.ref r) σ' (upd H' r (.tup (items i))) fun σ2 H2 => tb { D with nx := W (i + 1), ct := W (i + 1), bk := D.nx } σ2 H2) ∧ ∀ σ' H', W n σ' H' → D.nx σ' H') : tForG spec t g tb D σ H := h

def sp_check_kind (CB C : Addr) (K : PySem.W.Frag) : Sp := fun vs H Q E => ∃ (p L : Addr) (as : List Addr) (ss : List Stp) (m c i : Nat), vs = [.ref p] ∧ PrAt K C H p L as ss m c i ∧ PrOk ss m c i ∧ (¬ IsPrime m ∨ (∃ s ∈ ss, isT s = true) → ∀ H', Same H H' → E (.ref CB) none H') ∧ (IsPrime m → (∀ s ∈ ss, isT s = false) → ∀ H', Same H H' → Q .non H')
theorem ok_check_kind (T : Txt K mg) : FnOk P w K mg base (L2.CX P w) 2 T.a_check_kind T.fd_check_kind ["program"] (sp_check_kind T.E_BadStep T.C_Program K) := by
  refine T.F_check_kind.okX sc_check_kind (fun vs H Q E h => ?_) (fun cdv A outer s H vs Q E hr h => ?_)
  · obtain ⟨p, L, as, ss, m, c, i, rfl, _⟩ := h
    rfl
  · obtain ⟨p, L, as, ss, m, c, i, rfl, hP, ok, hE, hQ⟩ := h
    obtain ⟨dx, hp, hC⟩ := id hP.ob
    have hal := hP.st.1
    have hn := ok.len
    have m2 := ok.m2
    have m9 := ok.m9
    refine ⟨_, (pss_cons (ps_if (pt_not (pt_val (pe_callB (id := "isinstance") (C8.call_isC T.ic_Program) (by rfl) T.m_isinstance (by decide +kernel) (pa_cons (pv 0) (pa_cons (pe_glob (v := .ref T.C_Program) (by rfl) T.gc_Program rfl) pa_nil)))))
      (pss_one (ps_raise rfl (takes_of rfl rfl rfl rfl) (pmk_own PySem.F.excBase_ValueError T.xE_BadStep T.gE_BadStep T.kE_BadStep (raises_own T.bE_BadStep T.tE_BadStep) (by exact rfl))))
      pss_nil)
      (pss_cons (ps_if (pt_not (pt_val (pe_call (ok_is_prime T) hr (by rfl) T.g_is_prime T.F_is_prime.kp T.b_is_prime .nil pass0 (pa_cons (pe_fld (pv 0) rfl) pa_nil))))
      (pss_one (ps_raise rfl (takes_of rfl rfl rfl rfl) (pmk_own PySem.F.excBase_ValueError T.xE_BadStep T.gE_BadStep T.kE_BadStep (raises_own T.bE_BadStep T.tE_BadStep) (by exact rfl))))
      pss_nil)
      (pss_one (ps_if (pt_val (pe_callB (id := "any") (r := rAny K) (cr_any rfl) (by rfl) T.m_any (by decide +kernel) (pa_cons (pe_lc (own := [("step", 1)]) (g := gName 1) (tt := tYes) rfl sc_check_kind.nd (pi_list (pe_fld (pv 0) rfl)) (blkOk_by (N := N_check_kind) (sc := defScope s_check_kind) (by decide +kernel)) (fun _ _ _ _ _ => (pg_name (i := 1) sc_check_kind.nd rfl (Or.inl rfl))) (fun _ _ _ _ _ => pts_nil) (fun _ _ _ _ _ => (pe_cmpR op_eq (pe_ix (r := rIxT K) ix_tup (pv 1) pe_int (fun _ _ => rfl)) pe_str (nomark _)))) pa_nil)))
      (pss_one (ps_raise rfl (takes_of rfl rfl rfl rfl) (pmk_own PySem.F.excBase_ValueError T.xE_BadStep T.gE_BadStep T.kE_BadStep (raises_own T.bE_BadStep T.tE_BadStep) (by exact rfl))))
      pss_nil)))), ?_⟩
    walk_at "start"
    walk_at "x"
    refine ⟨p, dx, _, rfl, hp, _, rfl, ?_⟩
    walk_at "f"
    refine x_fldR hp hC.cl hC.m progF_m ?_
    walk_at "x"
    refine ⟨_, rfl, by omega, by omega, fun b hbp => ?_⟩
    walk_at "x"
    by_cases hm : IsPrime m
    case neg =>
      have e : b = false := by
        rw [← Bool.not_eq_true]
        exact fun z => hm (prime_N (hbp.mp z))
      subst e
      walk_at "t"
      exact hE (.inl hm) H (Same.refl _)
    have q := hQ hm
    have e : b = true := hbp.mpr (prime_I hm)
    subst e
    walk_at "f"
    refine x_lcPreJ ?_
    walk_at "x"
    refine x_fldR hp hC.cl hC.s progF_s ?_
    refine x_lcB (xs := as.map V.ref) (fun k => match ss[k]? with | some s => isT s | none => false) (J := Itl K L) (G := fun H => SqL K H L (as.map V.ref)) (fun R r => ⟨L, rfl, ⟨_, sq_of hP.lst⟩, r⟩) walk_list (by rw [List.length_map]; omega) (fun H2 s => sq_of (s _ _ hP.lst)) (fun x => rfl) ?_ ?_
    · intro k x H2 s2 hx R hR
      obtain ⟨b, hb, rfl⟩ := map_getR hx
      obtain ⟨s, hs1, hs2⟩ := hP.st.get hb
      obtain ⟨ys, hy⟩ := (hs2.tups (Tups.same s2)).head
      walk_at "x"
      refine x_ixT (v := .str (stW s)) (st_of hy) (atI_nat (j := 0) rfl) ?_
      walk_at "x"
      refine x_Eq rfl ?_
      rw [stW_tab]
      have e : (match ss[k]? with | some s => isT s | none => false) = isT s := by rw [hs1]
      rw [← e]
      exact hR H2 (Same.refl _)
    · intro r H2 hr s2 hR
      walk_at "x"
      refine x_any hR ?_
      walk_at "x"
      have eL : (as.map V.ref).length = ss.length := by rw [List.length_map, hal]
      rw [eL]
      by_cases htab : ∃ s ∈ ss, isT s = true
      · have e : (((List.range ss.length).map fun k => match ss[k]? with | some s => isT s | none => false).any id) = true := by
          obtain ⟨s, hs, ht⟩ := htab
          obtain ⟨k, hk, rfl⟩ := List.mem_iff_getElem.mp hs
          rw [List.any_eq_true]
          refine ⟨true, List.mem_map.mpr ⟨k, List.mem_range.mpr hk, ?_⟩, rfl⟩
          rw [List.getElem?_eq_getElem hk]
          exact ht
        rw [e]
        walk_at "t"
        exact hE (.inr htab) H2 s2
      · have no : ∀ s ∈ ss, isT s = false := fun s hs => by
          cases e : isT s with
          | false => rfl
          | true => exact absurd ⟨s, hs, e⟩ htab
        have e : (((List.range ss.length).map fun k => match ss[k]? with | some s => isT s | none => false).any id) = false := by
          rw [List.any_eq_false]
          intro b hb
          obtain ⟨k, hk, rfl⟩ := List.mem_map.mp hb
          have hk := List.mem_range.mp hk
          have ek : ss[k]? = some ss[k] := List.getElem?_eq_getElem hk
          rw [ek]
          have := no ss[k] (List.getElem_mem hk)
          simp [this]
        rw [e]
        walk_at "f"
        exact q no H2 s2


def sp_check_effort (CL C : Addr) (K : PySem.W.Frag) : Sp := fun vs H Q E => ∃ (p L : Addr) (as : List Addr) (ss : List Stp) (m c i : Nat), vs = [.ref p] ∧ PrAt K C H p L as ss m c i ∧ PrOk ss m c i ∧ (400000 < (ss.length + 1) * m ^ (i + c) → ∀ H', Same H H' → E (.ref CL) none H') ∧ ((ss.length + 1) * m ^ (i + c) ≤ 400000 → ∀ H', Same H H' → Q .non H')
theorem ok_check_effort (T : Txt K mg) : FnOk P w K mg base (L2.CX P w) 1 T.a_check_effort T.fd_check_effort ["program"] (sp_check_effort T.E_TooLong T.C_Program K) := by
  refine T.F_check_effort.okX sc_check_effort (fun vs H Q E h => ?_) (fun cdv A outer s H vs Q E hr h => ?_)
  · obtain ⟨p, L, as, ss, m, c, i, rfl, _⟩ := h
    rfl
  · obtain ⟨p, L, as, ss, m, c, i, rfl, hP, ok, hE, hQ⟩ := h
    obtain ⟨dx, hp, hC⟩ := id hP.ob
    have hal := hP.st.1
    have hn := ok.len
    have m2 := ok.m2
    have m9 := ok.m9
    refine ⟨_, (pss_cons (ps_set (i := 1) sc_check_effort.nd rfl (.inl rfl) (pe_op op_add (pe_callB (id := "len") (r := rLen K) cr_len (by rfl) T.m_len PySem.boot_len (pa_cons (pe_fld (pv 0) rfl) pa_nil)) pe_int))
      (pss_cons (ps_for (passes_of rfl) rfl (pi_range1 (by rfl) T.m_range (pa_cons (pe_op op_add (pe_fld (pv 0) rfl) (pe_fld (pv 0) rfl)) pa_nil)) (pg_name (i := 2) sc_check_effort.nd rfl (Or.inl rfl))
      (PSs.nox (pss_one (ps_set (i := 1) sc_check_effort.nd rfl (.inl rfl) (pe_op op_mul (pv 1) (pe_fld (pv 0) rfl))))))
      (pss_one (ps_if (pt_cmpR op_gt (pv 1) (pe_glob (v := .int 400000) (by rfl) T.c_GREATEST_EFFORT ⟨_, rfl⟩) (nomark _))
      (pss_one (ps_raise rfl (takes_of rfl rfl rfl rfl) (SkE.pmk_own1 PySem.F.excBase_ValueError T.xE_TooLong T.gE_TooLong T.kE_TooLong (raises_own T.bE_TooLong T.tE_TooLong) (by exact rfl) (pe_joined (PJ.cons pe_str (PJ.cons (pe_fmt (pe_glob (v := .int 400000) (by rfl) T.c_GREATEST_EFFORT ⟨_, rfl⟩)) (PJ.cons pe_str PJ.nil)))))))
      pss_nil)))), ?_⟩
    walk_at "start"
    walk_at "x"
    refine x_fldR hp hC.cl hC.s progF_s ?_
    walk_at "x"
    refine x_len (sq_of hP.lst) ?_
    walk_at "x"
    rw [show ((as.map V.ref).length : Int) + 1 = ((ss.length + 1 : Nat) : Int) by rw [List.length_map, hal]; rfl]
    refine x_forPreJ ?_
    walk_at "x"
    refine x_fldR hp hC.cl hC.i progF_i ?_
    walk_at "x"
    refine x_fldR hp hC.cl hC.c progF_c ?_
    walk_at "x"
    have c60 := ok.c60
    have i60 := ok.i60
    refine x_forR1 (((i + c : Nat) : Int)) (fun k σ' H' => Same H H' ∧ ∃ v2, σ' = [some (V.ref p), some (.int (((ss.length + 1) * m ^ k : Nat) : Int)), v2]) (fun R r => by rw [Int.natCast_add] at r; exact r) (by omega) (by omega) ⟨Same.refl _, _, by rw [Nat.pow_zero, Nat.mul_one]⟩ ?_ ?_
    · rintro k σ' H' hk ⟨hs, v2, rfl⟩
      walk_at "x"
      have hk2 : k < i + c := by omega
      refine x_fldR (hs _ _ hp) hC.cl hC.m progF_m ?_
      walk_at "x"
      exact ⟨hs, _, by rw [Nat.pow_succ, ← Nat.mul_assoc, Int.natCast_mul ((ss.length + 1) * m ^ k)]⟩
    · rintro σ' H' ⟨hs, v2, rfl⟩
      walk_at "x"
      rw [Int.toNat_natCast]
      refine x_ite (fun h1 => ?_) (fun h1 => ?_)
      · walk_at "x"
        refine ⟨_, rfl, by show (Str.empty ++ _).length ≤ _; rw [Str.length_append]; exact Nat.le_of_ble_eq_true rfl, ?_⟩
        refine x_fmt ?_
        walk_at "x"
        refine .inr ⟨_, rfl, log_nat (n := 400000) (by decide), ⟨_, rfl, Nat.le_of_ble_eq_true rfl, _, rfl, Nat.le_of_ble_eq_true rfl, hE (by omega) H' hs⟩⟩
      · walk_at "x"
        exact hQ (by omega) H' hs


def sp_spoilt_cells (K : PySem.W.Frag) : Sp := fun vs H Q _ => ∃ (a b : Addr) (xs ys : List Int) (t : Nat), vs = [.ref a, .ref b, .int (t : Int)] ∧ H a = some (.lst (xs.map V.int)) ∧ H b = some (.lst (ys.map V.int)) ∧ xs.length = ys.length ∧ xs.length ≤ 60 ∧
  ∀ l H', Same H H' → H l = none → H' l = some (.lst (((List.range xs.length).filter fun k => decide (xs.getD k 0 ≠ ys.getD k 0 ∧ k ≠ t)).map fun k => V.int ((k : Nat) : Int))) → Q (.ref l) H'
theorem ok_spoilt_cells (T : Txt K mg) : FnOk P w K mg base CX0 1 T.a_spoilt_cells T.fd_spoilt_cells ["memory", "behind", "target"] (sp_spoilt_cells K) := by
  refine T.F_spoilt_cells.ok sc_spoilt_cells (fun vs H Q E h => ?_) (fun cdv A outer s H vs Q E hr h => ?_)
  · obtain ⟨a, b, xs, ys, t, rfl, _⟩ := h
    rfl
  · obtain ⟨a, b, xs, ys, t, rfl, ha, hb, hl, h60, q⟩ := h
    refine ⟨_, (pss_one (ps_ret (pe_lc (own := [("cell", 3), ("content", 4)]) (g := gTup K 2 (gCons (gName 3) (gCons (gName 4) gNil))) (tt := _) rfl sc_spoilt_cells.nd (pi_enum (by rfl) T.m_enumerate (pa_cons (pv 0) pa_nil)) (blkOk_by (N := N_spoilt_cells) (sc := defScope s_spoilt_cells) (by decide +kernel)) (fun _ _ _ _ _ => (pg_tup rfl (pgs_cons (pg_name (i := 3) sc_spoilt_cells.nd rfl (Or.inl rfl)) (pgs_cons (pg_name (i := 4) sc_spoilt_cells.nd rfl (Or.inl rfl)) pgs_nil)))) (fun _ _ _ _ _ => (pts_one (PW.pt (pw_and (pt_cmpR op_ne (pv 4) (pe_ix (r := rIxL K) ix_list (pv 1) (pv 3) (fun _ _ => rfl)) (nomark _)) (pw_and1 (pt_cmpR op_ne (pv 3) (pv 2) (nomark _))))))) (fun _ _ _ _ _ => (pv 3))))), ?_⟩
    walk_at "start"
    walk_at "x"
    refine x_lcEnF (a := a) (xs := xs.map V.int) (fun k => decide (xs.getD k 0 ≠ ys.getD k 0 ∧ k ≠ t)) (fun k => V.int ((k : Nat) : Int)) (fun R r => by walk_at "x"; exact r) (sq_of ha) (by rw [List.length_map]; omega) (fun x y => rfl) (fun H' s => sq_of (s _ _ ha)) ?_ ?_ ?_
    · intro k x H' s' hx R hR
      obtain ⟨z, hz, rfl⟩ := map_get hx
      have hk : k < xs.length := (List.getElem?_eq_some_iff.mp hz).1
      have hy : ys[k]? = some (ys.getD k 0) := by rw [List.getD_eq_getElem?_getD, List.getElem?_eq_getElem (by omega)]; rfl
      have hz2 : xs.getD k 0 = z := by rw [List.getD_eq_getElem?_getD, hz]; rfl
      walk_at "x"
      refine x_ixL (v := .int (ys.getD k 0)) (sq_of (s' _ _ hb)) (atI_nat (by rw [List.getElem?_map, hy]; rfl)) ?_
      walk_at "x"
      rw [hz2] at hR
      by_cases e1 : z = ys.getD k 0
      · rw [decide_eq_true e1]
        rw [decide_eq_false (fun h => h.1 e1)] at hR
        walk_at "f"
        exact hR H' (Same.refl _)
      · rw [decide_eq_false e1]
        walk_at "t"
        walk_at "x"
        have e2 : (!decide ((k : Int) = (t : Int))) = decide (z ≠ ys.getD k 0 ∧ k ≠ t) := by
          by_cases h : k = t
          · rw [decide_eq_true (show (k : Int) = (t : Int) by omega), decide_eq_false (fun z => z.2 h)]; rfl
          · rw [decide_eq_false (show ¬ (k : Int) = (t : Int) by omega), decide_eq_true ⟨e1, h⟩]; rfl
        rw [e2]
        exact hR H' (Same.refl _)
    · intro k x H' s' hx R hR
      walk_at "x"
      exact hR H' (Same.refl _)
    · intro l H' hl0 s' hl2
      rw [List.length_map] at hl2
      exact q l H' s' hl0 hl2


/-- a witness as it stands -/
def WitAt (H : Hp) (v : V) : Wit → Prop
  | .no => v = .non
  | .sp gs ms k => ∃ r g mm, v = .ref r ∧ H r = some (.tup [.str "spoilt", .ref g, .ref mm, .int ((k : Nat) : Int)]) ∧ H g = some (.lst (gs.map V.int)) ∧ H mm = some (.lst (ms.map V.int))
  | .lk gs zs ms => ∃ r g z mm, v = .ref r ∧ H r = some (.tup [.str "leaky", .ref g, .ref z, .ref mm]) ∧ H g = some (.lst (gs.map V.int)) ∧ H z = some (.lst (zs.map V.int)) ∧ H mm = some (.lst (ms.map V.int))
theorem WitAt.same {H H' : Hp} {v : V} (s : Same H H') : ∀ {W : Wit}, WitAt H v W → WitAt H' v W
  | .no, h => h
  | .sp .., ⟨r, g, mm, h1, h2, h3, h4⟩ => ⟨r, g, mm, h1, s _ _ h2, s _ _ h3, s _ _ h4⟩
  | .lk .., ⟨r, g, z, mm, h1, h2, h3, h4, h5⟩ => ⟨r, g, z, mm, h1, s _ _ h2, s _ _ h3, s _ _ h4, s _ _ h5⟩
def sp_judge (CB CL C : Addr) (K : PySem.W.Frag) : Sp := fun vs H Q E => ∃ (p L : Addr) (as : List Addr) (ss : List Stp) (m c i : Nat) (tv : V), vs = [.ref p, tv] ∧ PrAt K C H p L as ss m c i ∧ PrOk ss m c i ∧ Odd H tv ∧ ((¬ IsPrime m ∨ (∃ s ∈ ss, isT s = true)) ∨ isB tv (c : Int) = false → ∀ H', Same H H' → E (.ref CB) none H') ∧
  (IsPrime m → (∀ s ∈ ss, isT s = false) → isB tv (c : Int) = true → 400000 < (ss.length + 1) * m ^ (i + c) → ∀ H', Same H H' → E (.ref CL) none H') ∧
  (∀ t : Nat, tv = .int (t : Int) → t < c → IsPrime m → (∀ s ∈ ss, isT s = false) → (ss.length + 1) * m ^ (i + c) ≤ 400000 → ∀ v H', Same H H' → WitAt H' v (verdF m c i ss t) → Q v H')
theorem ok_judge (T : Txt K mg) : FnOk P w K mg base (L2.CX P w) 6 T.a_judge T.fd_judge ["program", "target"] (sp_judge T.E_BadStep T.E_TooLong T.C_Program K) := by
  refine T.F_judge.okX sc_judge (fun vs H Q E h => ?_) (fun cdv A outer s H vs Q E hr h => ?_)
  · obtain ⟨p, L, as, ss, m, c, i, tv, rfl, _⟩ := h
    rfl
  · obtain ⟨p, L, as, ss, m, c, i, tv, rfl, hP, ok, hO, hB, hL, hQ⟩ := h
    refine ⟨_, (pss_cons (ps_expr (pe_call (ok_check_kind T) (hr.mono (by decide)) (by rfl) T.g_check_kind T.F_check_kind.kp T.b_check_kind .nil (passes_call (takes_of rfl rfl rfl rfl) (fun _ _ _ _ h => h)) (pa_cons (pv 0) pa_nil)))
      (pss_cons (ps_if (pt_not (pt_val (pe_call (ok_is_below T) (hr.mono (by decide)) (by rfl) T.g_is_below T.F_is_below.kp T.b_is_below .nil pass0 (pa_cons (pv 1) (pa_cons (pe_fld (pv 0) rfl) pa_nil)))))
      (pss_one (ps_raise rfl (takes_of rfl rfl rfl rfl) (pmk_own PySem.F.excBase_ValueError T.xE_BadStep T.gE_BadStep T.kE_BadStep (raises_own T.bE_BadStep T.tE_BadStep) (by exact rfl))))
      pss_nil)
      (pss_cons (ps_expr (pe_call (ok_check_effort T) (hr.mono (by decide)) (by rfl) T.g_check_effort T.F_check_effort.kp T.b_check_effort .nil (passes_call (takes_of rfl rfl rfl rfl) (fun _ _ _ _ h => h)) (pa_cons (pv 0) pa_nil)))
      (PSs.nox (pss_cons (ps_par (i := 2) (j := 3) rfl sc_judge.nd rfl rfl (by decide) rfl rfl (pa_cons (pe_fld (pv 0) rfl) (pa_cons (pe_fld (pv 0) rfl) pa_nil)) (by rfl))
      (pss_cons (ps_set (i := 4) sc_judge.nd rfl (.inl rfl) (pe_op op_rep (pe_lst (pa_cons (pv 2) pa_nil)) (pe_op op_add (pv 3) (pe_fld (pv 0) rfl))))
      (pss_cons (ps_set (i := 5) sc_judge.nd rfl (.inl rfl) pe_non)
      (pss_cons (ps_set (i := 6) sc_judge.nd rfl (.inl rfl) pe_int)
      (pss_cons (ps_forGn (ok_grid_points T) (hr.mono (by decide)) (by rfl) T.g_grid_points T.F_grid_points.kp T.b_grid_points (fun _ _ h => h) rfl (pa_cons (pv 4) pa_nil) (pg_name (i := 7) sc_judge.nd rfl (Or.inl rfl))
      (pss_cons (ps_par (i := 8) (j := 9) rfl sc_judge.nd rfl rfl (by decide) rfl rfl (pa_cons (pe_callTy (T := "list") (r := rListOf K) cr_list_of (by rfl) T.m_list (by decide +kernel) (pa_cons (pe_slice (r := rSlA K) sl_tupA (pv 7) po_none (po_some (pv 3))) pa_nil)) (pa_cons (pe_callTy (T := "list") (r := rListOf K) cr_list_of (by rfl) T.m_list (by decide +kernel) (pa_cons (pe_slice (r := rSlA K) sl_tupA (pv 7) (po_some (pv 3)) po_none) pa_nil)) pa_nil)) (by rfl))
      (pss_cons (ps_set (i := 10) sc_judge.nd rfl (.inl rfl) (pe_call (ok_performed T) hr (by rfl) T.g_performed T.F_performed.kp T.b_performed .nil pass0 (pa_cons (pe_fld (pv 0) rfl) (pa_cons (pv 9) (pa_cons (pv 8) (pa_cons (pv 2) pa_nil))))))
      (pss_cons (ps_set (i := 11) sc_judge.nd rfl (.inl rfl) (pe_call (ok_spoilt_cells T) (hr.mono (by decide)) (by rfl) T.g_spoilt_cells T.F_spoilt_cells.kp T.b_spoilt_cells .nil pass0 (pa_cons (pv 9) (pa_cons (pv 10) (pa_cons (pv 1) pa_nil)))))
      (pss_cons (ps_if (pt_truth (pv 11) (by intro _; rfl))
      (pss_one (ps_ret (pe_tup (pa_cons pe_str (pa_cons (pv 8) (pa_cons (pv 9) (pa_cons (pe_ix (r := rIxL K) ix_list (pv 11) pe_int (fun _ _ => rfl)) pa_nil)))))))
      pss_nil)
      (pss_cons (ps_set (i := 12) sc_judge.nd rfl (.inl rfl) (pe_op op_mod (pe_op op_sub (pe_ix (r := rIxL K) ix_list (pv 10) (pv 1) (fun _ _ => rfl)) (pe_ix (r := rIxL K) ix_list (pv 9) (pv 1) (fun _ _ => rfl))) (pv 2)))
      (pss_one (ps_if (pt_not (pt_val (pe_callB (id := "any") (r := rAnyI K) (cr_anyI rfl) (by rfl) T.m_any (by decide +kernel) (pa_cons (pv 9) pa_nil))))
      (pss_one (ps_set (i := 6) sc_judge.nd rfl (.inl rfl) (pv 12)))
      (pss_one (ps_if (PW.pt (pw_and (pt_cmpR op_isN1 (pv 5) pe_non (nomark _)) (pw_and1 (pt_cmpR op_ne (pv 12) (pv 6) (nomark _)))))
      (pss_one (ps_set (i := 5) sc_judge.nd rfl (.inl rfl) (pe_tup (pa_cons pe_str (pa_cons (pv 8) (pa_cons (pe_op op_rep (pe_lst (pa_cons pe_int pa_nil)) (pe_fld (pv 0) rfl)) (pa_cons (pv 9) pa_nil)))))))
      pss_nil))))))))))
      (pss_one (ps_ret (pv 5)))))))))))), ?_⟩
    walk_at "start"
    obtain ⟨dx, hp, hC⟩ := id hP.ob
    have hal := hP.st.1
    have m2 := ok.m2
    have m9 := ok.m9
    have c60 := ok.c60
    have i60 := ok.i60
    have m1 : 0 < m := by omega
    walk_at "x"
    refine ⟨p, L, as, ss, m, c, i, rfl, hP, ok, fun hb => hB (.inl hb), fun hm hT H1 s1 => ?_⟩
    walk_at "x"
    refine x_fldR (s1 _ _ hp) hC.cl hC.c progF_c ?_
    walk_at "x"
    refine ⟨_, _, rfl, hO.same s1, ?_⟩
    cases hbt : isB tv (c : Int) with
    | false =>
      walk_at "x"
      walk_at "t"
      exact hB (.inr hbt) H1 s1
    | true =>
    obtain ⟨t, rfl, ht⟩ := isB_nat hbt
    walk_at "x"
    walk_at "f"
    refine ⟨p, L, as, ss, m, c, i, rfl, hP.same s1, ok, (fun hx H' s => hL hm hT hbt hx H' (s1.trans s)), fun he H2 s2 => ?_⟩
    have q := hQ t rfl ht hm hT he
    have s2 := s1.trans s2
    walk_at "x"
    refine x_fldR (s2 _ _ hp) hC.cl hC.m progF_m ?_
    walk_at "x"
    refine x_fldR (s2 _ _ hp) hC.cl hC.i progF_i ?_
    walk_at "x"
    refine ⟨by show 1 ≤ sizeLine; decide, fun q1 hq1 => ?_⟩
    have s3 := s2.trans (same_upd (o := .lst [V.int ((m : Nat) : Int)]) hq1)
    have e3 : (upd H2 q1 (.lst [V.int ((m : Nat) : Int)])) q1 = some (.lst [V.int ((m : Nat) : Int)]) := upd_same
    generalize upd H2 q1 (.lst [V.int ((m : Nat) : Int)]) = H3 at s3 e3
    walk_at "x"
    refine x_fldR (s3 _ _ hp) hC.cl hC.c progF_c ?_
    walk_at "x"
    refine ⟨q1, ((i : Int) + (c : Int)), [V.int ((m : Nat) : Int)], rfl, rfl, e3, by omega, by omega, Nat.le_trans (show 1 * ((i : Int) + (c : Int)).toNat ≤ 1000 by omega) (by decide), fun sz hsz => ?_⟩
    have eR : (List.replicate ((i : Int) + (c : Int)).toNat [V.int ((m : Nat) : Int)]).flatten = nV (List.replicate (i + c) m) := by
      rw [show ((i : Int) + (c : Int)).toNat = i + c by omega]
      show _ = (List.replicate (i + c) m).map _
      rw [List.map_replicate]
      exact List.flatten_replicate_singleton ..
    rw [eR]
    have s4 := s3.trans (same_upd (o := .lst (nV (List.replicate (i + c) m))) hsz)
    have e4 : (upd H3 sz (.lst (nV (List.replicate (i + c) m)))) sz = some (.lst (nV (List.replicate (i + c) m))) := upd_same
    generalize upd H3 sz (.lst (nV (List.replicate (i + c) m))) = H4 at s4 e4
    walk_at "x"
    refine x_forG ?_
    walk_at "x"
    refine ⟨[(sz, nV (List.replicate (i + c) m))], m ^ (i + c), _, ⟨sz, List.replicate (i + c) m, rfl, e4, rep_pos m1, by rw [List.length_replicate]; omega, rfl, prod_rep.symm, rfl⟩, fun x hx => by rw [List.mem_singleton.mp hx]; exact e4,
      fun k σ' H' => Same H4 H' ∧ (∀ j, j < k → spoF m c i ss t j = []) ∧ ∃ lv v7 v8 v9 v10 v11 v12, σ' = [some (V.ref p), some (.int ((t : Nat) : Int)), some (.int ((m : Nat) : Int)), some (.int ((i : Nat) : Int)), some (.ref sz), some lv, some (.int (if k = 0 then 0 else am0F m c i ss t (k - 1))), v7, v8, v9, v10, v11, v12] ∧ WitAt H' lv (leakW m c i ss t k),
      ⟨Same.refl _, fun j hj => absurd hj (Nat.not_lt_zero j), _, _, _, _, _, _, _, rfl, rfl⟩, fun k σ' H' _ w x hx => by rw [List.mem_singleton.mp hx]; exact w.1 _ _ e4, ?_, ?_⟩
    · rintro k σ' H' hk ⟨hs, hsp, lv, v7, v8, v9, v10, v11, v12, rfl, hw⟩ r hr
      have sR := same_upd (o := .tup (nV (dg (List.replicate (i + c) m) k))) hr
      have eN : (upd H' r (.tup (nV (dg (List.replicate (i + c) m) k)))) r = some (.tup (nV (dg (List.replicate (i + c) m) k))) := upd_same
      generalize upd H' r (.tup (nV (dg (List.replicate (i + c) m) k))) = H5 at sR eN
      have hw5 := hw.same sR
      have s5 := hs.trans sR
      clear hw hs
      walk_at "x"
      have hlen : (nV (dg (List.replicate (i + c) m) k)).length = i + c := by rw [List.length_map, dg_len, List.length_replicate]
      refine x_slTo ?_
      walk_at "x"
      refine ⟨_, rfl, x_slAJ eN fun u H6 s6 e6 => ?_⟩
      rw [cutV_to (by rw [hlen]; omega), ← List.map_take, show ((dg (List.replicate (i + c) m) k).take i).map (fun n => V.int ((n : Nat) : Int)) = (givF m c i k).map V.int by unfold givF; rw [List.map_map]; rfl] at e6
      walk_at "x"
      refine x_listT (st_of e6) fun ga hga => ?_
      have s7 := s6.trans (same_upd (o := .lst ((givF m c i k).map V.int)) hga)
      have e7 : (upd H6 ga (.lst ((givF m c i k).map V.int))) ga = some (.lst ((givF m c i k).map V.int)) := upd_same
      generalize upd H6 ga (.lst ((givF m c i k).map V.int)) = H7 at s7 e7
      walk_at "x"
      refine x_slFrom ?_
      walk_at "x"
      refine ⟨_, rfl, x_slAJ (s7 _ _ eN) fun u2 H8 s8 e8 => ?_⟩
      rw [cutV_from (by rw [hlen]; omega), ← List.map_drop, show ((dg (List.replicate (i + c) m) k).drop i).map (fun n => V.int ((n : Nat) : Int)) = (memF2 m c k).map V.int by rw [← mem_drop (i := i), List.map_map]; rfl] at e8
      walk_at "x"
      refine x_listT (st_of e8) fun ma hma => ?_
      have s9 := s8.trans (same_upd (o := .lst ((memF2 m c k).map V.int)) hma)
      have e9 : (upd H8 ma (.lst ((memF2 m c k).map V.int))) ma = some (.lst ((memF2 m c k).map V.int)) := upd_same
      have s9a := same_upd (o := .lst ((memF2 m c k).map V.int)) hma
      generalize upd H8 ma (.lst ((memF2 m c k).map V.int)) = H9 at s9 e9 s9a
      have g9 := s9 _ _ e7
      have hw9 : WitAt H9 lv (leakW m c i ss t k) := hw5.same ((s7.trans s8).trans s9a)
      have s9 := (s5.trans s7).trans s9
      have s09 := s4.trans s9
      clear hw5 s9a s8 s7 s6 e6 e8 hga hma
      walk_at "x"
      refine x_fldR (s09 _ _ hp) hC.cl hC.s progF_s ?_
      walk_at "x"
      refine ⟨L, ma, ga, as, ss, m, c, i, memF2 m c k, givF m c i k, rfl, sq_of (s09 _ _ hP.lst), (hP.same s09).st, ok, sq_of e9, g9, mem_mem m1, giv_mem m1, fun bl HA hbl sA eA => ?_⟩
      walk_at "x"
      have blen : (behF m c i ss k).length = c := (runF_mem (Nat.le_trans (by decide) m2) (mem_mem m1) ok.ok).len
      refine ⟨ma, bl, memF2 m c k, behF m c i ss k, t, rfl, sA _ _ e9, eA, by rw [mem_len, blen], by rw [mem_len]; omega, fun w HB sB hw0 eB => ?_⟩
      rw [mem_len] at eB
      have eB : HB w = some (.lst ((spoF m c i ss t k).map fun k => V.int ((k : Nat) : Int))) := eB
      have gB := sB _ _ (sA _ _ g9)
      have mB := sB _ _ (sA _ _ e9)
      have bB := sB _ _ eA
      have hwB := hw9.same (sA.trans sB)
      have sB9 := s9.trans (sA.trans sB)
      walk_at "x"
      refine ⟨_, .inl ⟨_, sq_of eB, rfl⟩, ?_⟩
      cases hsk : spoF m c i ss t k with
      | cons h0 tl =>
        rw [hsk] at eB
        walk_at "x"
        rw [if_pos (by rfl)]
        walk_at "x"
        refine x_ixL (v := .int ((h0 : Nat) : Int)) (sq_of eB) (atI_nat (j := 0) rfl) ?_
        walk_at "x"
        refine ⟨by show 4 ≤ sizeLine; decide, fun tp htp => ?_⟩
        have sT := same_upd (o := .tup [.str "spoilt", .ref ga, .ref ma, .int ((h0 : Nat) : Int)]) htp
        have eT : (upd HB tp (.tup [.str "spoilt", .ref ga, .ref ma, .int ((h0 : Nat) : Int)])) tp = _ := upd_same
        refine q _ _ ((s4.trans sB9).trans sT) ?_
        have : verdF m c i ss t = .sp (givF m c i k) (memF2 m c k) h0 := by
          unfold verdF
          rw [find_first (k := k) (fun j hj => by rw [hsp j hj]; simp) (by rw [hsk]; simp) hk]
          show Wit.sp _ _ ((spoF m c i ss t k).headD 0) = _
          rw [hsk]
          rfl
        rw [this]
        exact ⟨tp, ga, ma, rfl, eT, sT _ _ gB, sT _ _ mB⟩
      | nil =>
        walk_at "x"
        rw [if_neg (by simp)]
        have hsp' : ∀ j, j < k + 1 → spoF m c i ss t j = [] := fun j hj => by
          rcases Nat.lt_succ_iff_lt_or_eq.mp hj with z | z
          · exact hsp j z
          · rw [z]; exact hsk
        have gbl : ((behF m c i ss k).map V.int)[t]? = some (.int ((behF m c i ss k).getD t 0)) := by
          rw [List.getElem?_map, List.getElem?_eq_getElem (by rw [blen]; exact ht), List.getD_eq_getElem?_getD, List.getElem?_eq_getElem (by rw [blen]; exact ht)]; rfl
        have gml : ((memF2 m c k).map V.int)[t]? = some (.int ((memF2 m c k).getD t 0)) := by
          rw [List.getElem?_map, List.getElem?_eq_getElem (by rw [mem_len]; exact ht), List.getD_eq_getElem?_getD, List.getElem?_eq_getElem (by rw [mem_len]; exact ht)]; rfl
        walk_at "x"
        refine x_ixL (sq_of bB) (atI_nat gbl) ?_
        walk_at "x"
        refine x_ixL (sq_of mB) (atI_nat gml) ?_
        walk_at "x"
        rw [show ((behF m c i ss k).getD t 0 - (memF2 m c k).getD t 0) % (m : Int) = amtF m c i ss t k from rfl]
        refine ⟨ma, memF2 m c k, rfl, sq_of mB, ?_⟩
        walk_at "x"
        by_cases hz : memF2 m c k = zeroF c
        · rw [(any_zero mem_len).mpr hz]
          walk_at "t"
          walk_at "x"
          have hl0 := leak_zero (i := i) (ss := ss) hz ht
          have ea : amtF m c i ss t k = am0F m c i ss t k := by
            unfold leakF at hl0
            have := of_decide_eq_false hl0
            exact Classical.not_not.mp this
          refine ⟨sB9, hsp', lv, some (.ref r), some (.ref ga), some (.ref ma), some (.ref bl), some (.ref w), some (.int (amtF m c i ss t k)), ?_, by rw [leakW_stay hl0]; exact hwB⟩
          rw [if_neg (Nat.succ_ne_zero k), Nat.add_sub_cancel, ← ea]
          all_goals rfl
        · have hany : ((memF2 m c k).any fun n => decide (n ≠ 0)) = true := by
            cases q : ((memF2 m c k).any fun n => decide (n ≠ 0)) with
            | true => rfl
            | false => exact absurd ((any_zero mem_len).mp q) hz
          rw [hany]
          walk_at "f"
          obtain ⟨k0, rfl⟩ : ∃ k0, k = k0 + 1 := by
            cases k with
            | zero => exact absurd (mem_first m1) hz
            | succ k0 => exact ⟨k0, rfl⟩
          have e0 : am0F m c i ss t (k0 + 1 - 1) = am0F m c i ss t (k0 + 1) := am0_same (giv_same m1 hz).symm
          rw [if_neg (Nat.succ_ne_zero k0), e0]
          cases hf : (List.range (k0 + 1)).find? (leakF m c i ss t) with
          | some j =>
            rw [leakW_of_some hf] at hwB
            obtain ⟨r1, g1, z1, mm1, rfl, hr1, hr2, hr3, hr4⟩ := id hwB
            walk_at "x"
            rw [decide_eq_false (show ¬ V.ref r1 = V.non from fun h => nomatch h)]
            walk_at "f"
            walk_at "f"
            refine ⟨sB9, hsp', .ref r1, some (.ref r), some (.ref ga), some (.ref ma), some (.ref bl), some (.ref w), some (.int (amtF m c i ss t (k0 + 1))), ?_, by rw [leakW_some hf, leakW_of_some hf]; exact hwB⟩
            rw [if_neg (Nat.succ_ne_zero (k0 + 1)), Nat.add_sub_cancel]
          | none =>
            rw [leakW_of_none hf] at hwB
            cases hwB
            walk_at "x"
            rw [decide_eq_true (show V.non = V.non from rfl)]
            walk_at "t"
            walk_at "x"
            by_cases hq : amtF m c i ss t (k0 + 1) = am0F m c i ss t (k0 + 1)
            · rw [decide_eq_true hq]
              have hl0 : leakF m c i ss t (k0 + 1) = false := decide_eq_false fun z => z hq
              walk_at "f"
              refine ⟨sB9, hsp', .non, some (.ref r), some (.ref ga), some (.ref ma), some (.ref bl), some (.ref w), some (.int (amtF m c i ss t (k0 + 1))), ?_, by rw [leakW_no hf hl0]; rfl⟩
              rw [if_neg (Nat.succ_ne_zero (k0 + 1)), Nat.add_sub_cancel]
            · rw [decide_eq_false hq]
              have hl1 : leakF m c i ss t (k0 + 1) = true := decide_eq_true hq
              walk_at "t"
              walk_at "x"
              refine ⟨by show 1 ≤ sizeLine; decide, fun q2 hq2 => ?_⟩
              have sC := same_upd (o := .lst [V.int 0]) hq2
              have eC : (upd HB q2 (.lst [V.int 0])) q2 = some (.lst [V.int 0]) := upd_same
              generalize upd HB q2 (.lst [V.int 0]) = HC at sC eC
              walk_at "x"
              refine x_fldR (sC _ _ (((s4.trans sB9)) _ _ hp)) hC.cl hC.c progF_c ?_
              walk_at "x"
              refine ⟨q2, (c : Int), [V.int 0], rfl, rfl, eC, by omega, by omega, Nat.le_trans (show 1 * (c : Int).toNat ≤ 1000 by omega) (by decide), fun zl hzl => ?_⟩
              have eZ0 : (List.replicate (c : Int).toNat [V.int 0]).flatten = (zeroF c).map V.int := by
                unfold zeroF
                rw [Int.toNat_natCast, List.map_replicate]
                exact List.flatten_replicate_singleton ..
              rw [eZ0]
              have sD := sC.trans (same_upd (o := .lst ((zeroF c).map V.int)) hzl)
              have eD : (upd HC zl (.lst ((zeroF c).map V.int))) zl = some (.lst ((zeroF c).map V.int)) := upd_same
              generalize upd HC zl (.lst ((zeroF c).map V.int)) = HD at sD eD
              walk_at "x"
              refine ⟨by show 4 ≤ sizeLine; decide, fun tp htp => ?_⟩
              have sT := same_upd (o := .tup [.str "leaky", .ref ga, .ref zl, .ref ma]) htp
              have eT : (upd HD tp (.tup [.str "leaky", .ref ga, .ref zl, .ref ma])) tp = _ := upd_same
              generalize upd HD tp (.tup [.str "leaky", .ref ga, .ref zl, .ref ma]) = HE at sT eT
              have sE := sD.trans sT
              refine ⟨sB9.trans sE, hsp', .ref tp, some (.ref r), some (.ref ga), some (.ref ma), some (.ref bl), some (.ref w), some (.int (amtF m c i ss t (k0 + 1))), ?_, by rw [leakW_new hf hl1]; exact ⟨tp, ga, zl, ma, rfl, eT, sE _ _ gB, sT _ _ eD, sE _ _ mB⟩⟩
              rw [if_neg (Nat.succ_ne_zero (k0 + 1)), Nat.add_sub_cancel]
              all_goals rfl
    · rintro σ' H' ⟨hs, hsp, lv, v7, v8, v9, v10, v11, v12, rfl, hw⟩
      walk_at "x"
      refine q lv H' (s4.trans hs) ?_
      have : verdF m c i ss t = leakW m c i ss t (m ^ (i + c)) := by
        unfold verdF
        rw [List.find?_eq_none.mpr fun j hj => by
          have := hsp j (List.mem_range.mp hj)
          simp [this]]
      rw [this]
      exact hw



/-- the sizes for a cell that keeps its own content -/
def szU (n k : Nat) : List Nat := (List.range n).map fun v => if v = k then 2 else 1
theorem szU_len {n k : Nat} : (szU n k).length = n := by unfold szU; rw [List.length_map, List.length_range]
theorem szU_le {n k s : Nat} (h : s ∈ szU n k) : 1 ≤ s ∧ s ≤ 2 := by
  obtain ⟨v, _, rfl⟩ := List.mem_map.mp h
  by_cases e : v = k
  · rw [if_pos e]; exact ⟨by decide, by decide⟩
  · rw [if_neg e]; exact ⟨by decide, by decide⟩
theorem prod_app : ∀ {xs ys : List Nat}, prodL (xs ++ ys) = prodL xs * prodL ys
  | [], ys => by show prodL ys = 1 * prodL ys; rw [Nat.one_mul]
  | x :: xs, ys => by show x * prodL (xs ++ ys) = x * prodL xs * prodL ys; rw [prod_app, Nat.mul_assoc]
theorem szU_prod {k : Nat} : ∀ n : Nat, prodL (szU n k) = if k < n then 2 else 1
  | 0 => by rw [if_neg (Nat.not_lt_zero _)]; rfl
  | n + 1 => by
    have e : szU (n + 1) k = szU n k ++ [if n = k then 2 else 1] := by unfold szU; rw [List.range_succ, List.map_append]; rfl
    rw [e, prod_app, szU_prod n]
    show _ * ((if n = k then 2 else 1) * 1) = _
    by_cases h1 : k < n
    · rw [if_pos h1, if_neg (by omega), if_pos (by omega)]
    · by_cases h2 : n = k
      · rw [if_neg h1, if_pos h2, if_pos (by omega)]
      · rw [if_neg h1, if_neg h2, if_neg (by omega)]
theorem szU_dU {n k : Nat} : (dU n k).map (fun x => V.int (x + 1)) = nV (szU n k) := by
  unfold dU szU nV
  rw [List.map_map, List.map_map]
  apply List.map_congr_left
  intro v _
  show V.int ((if v = k then (1 : Int) else 0) + 1) = V.int (((if v = k then 2 else 1 : Nat)) : Int)
  by_cases e : v = k
  · rw [if_pos e, if_pos e]; rfl
  · rw [if_neg e, if_neg e]; rfl
/-- a point as a key -/
def ptK (ns : List Nat) : List Key := ns.map fun n : Nat => (Sum.inl ((n : Nat) : Int) : Key)
theorem ptK_kV {ns : List Nat} : (ptK ns).map kV = nV ns := by
  unfold ptK nV
  rw [List.map_map]
  rfl
theorem x_dnotT {ty td : TE} {σ : L2.St} {H : Hp} {Q : VK} (h : ty σ H fun y H1 => td σ H1 fun x H2 => ∃ a o, x = .ref a ∧ DGet H2 a y o ∧ Q (.bl (!o.isSome)) H2) : tDNotIn ty td σ H Q := h
theorem x_dgetT {ty td : TE} {σ : L2.St} {H : Hp} {Q : VK} (h : td σ H fun x H1 => ty σ H1 fun y H2 => ∃ a v, x = .ref a ∧ DGet H2 a y (some v) ∧ Q v H2) : tDGet td ty σ H Q := h
theorem x_dputT {td ty tv : TE} {σ : L2.St} {H : Hp} {D : Ends} (h : tv σ H fun v H1 => td σ H1 fun x H2 => ty σ H2 fun y H3 => ∃ a H4, x = .ref a ∧ DPut H3 a y v H4 ∧ D.nx σ H4) : sDPut td ty tv D σ H := h
/-- what the dict of the points holds -/
def BehAt (H : Hp) (c : Nat) (av : List Addr) (kvs : List (List Key × V)) : Prop := ∀ k v, valV kvs k = some v → ∃ (l : Addr) (ys : List Int), v = .ref l ∧ H l = some (.lst (ys.map V.int)) ∧ ys.length = c ∧ ∀ b ∈ av, l ≠ b
theorem BehAt.nil {H : Hp} {c : Nat} {av : List Addr} : BehAt H c av [] := fun k v e => by rw [valV_nil] at e; cases e
theorem BehAt.same {H H' : Hp} {c : Nat} {av : List Addr} {kvs : List (List Key × V)} (h : BehAt H c av kvs) (s : Same H H') : BehAt H' c av kvs := fun k v e => by
  obtain ⟨l, ys, h1, h2, h3, h4⟩ := h k v e
  exact ⟨l, ys, h1, s _ _ h2, h3, h4⟩
theorem BehAt.upd {H : Hp} {c : Nat} {av : List Addr} {kvs : List (List Key × V)} {b : Addr} {o : HO} (h : BehAt H c av kvs) (hb : b ∈ av) : BehAt (upd H b o) c av kvs := fun k v e => by
  obtain ⟨l, ys, h1, h2, h3, h4⟩ := h k v e
  exact ⟨l, ys, h1, by rw [upd_ne (h4 b hb)]; exact h2, h3, h4⟩
theorem BehAt.fresh {H : Hp} {c : Nat} {av : List Addr} {kvs : List (List Key × V)} {b : Addr} (h : BehAt H c av kvs) (hb : H b = none) : BehAt H c (b :: av) kvs := fun k v e => by
  obtain ⟨l, ys, h1, h2, h3, h4⟩ := h k v e
  refine ⟨l, ys, h1, h2, h3, fun x hx => ?_⟩
  rcases List.mem_cons.mp hx with q | q
  · rw [q]; exact fun z => by rw [z, hb] at h2; cases h2
  · exact h4 x q
theorem BehAt.less {H : Hp} {c : Nat} {av : List Addr} {kvs : List (List Key × V)} {b : Addr} (h : BehAt H c (b :: av) kvs) : BehAt H c av kvs := fun k v e => by
  obtain ⟨l, ys, h1, h2, h3, h4⟩ := h k v e
  exact ⟨l, ys, h1, h2, h3, fun x hx => h4 x (List.mem_cons_of_mem _ hx)⟩
theorem BehAt.put {H : Hp} {c : Nat} {av : List Addr} {kvs : List (List Key × V)} {k : List Key} {l : Addr} {ys : List Int} (h : BehAt H c av kvs) (hl : H l = some (.lst (ys.map V.int))) (hy : ys.length = c) (ha : ∀ b ∈ av, l ≠ b) : BehAt H c av (putK kvs k (.ref l)) := fun j v e => by
  rw [valV_put] at e
  by_cases q : j = k
  · rw [if_pos q] at e
    cases e
    exact ⟨l, ys, rfl, hl, hy, ha⟩
  · rw [if_neg q] at e
    exact h j v e
/-- the lists of degrees -/
def DsAt (H : Hp) (D : Addr) (n i : Nat) (av : List Addr) (ds : List Addr) : Prop := H D = some (.lst (ds.map V.ref)) ∧ (∀ b ∈ av, D ≠ b) ∧ ∀ (j : Nat) d, ds[j]? = some d → H d = some (.lst ((dU n (i + j)).map V.int)) ∧ ∀ b ∈ av, d ≠ b
theorem DsAt.same {H H' : Hp} {D : Addr} {n i : Nat} {av ds : List Addr} (h : DsAt H D n i av ds) (s : Same H H') : DsAt H' D n i av ds := ⟨s _ _ h.1, h.2.1, fun j d e => ⟨s _ _ (h.2.2 j d e).1, (h.2.2 j d e).2⟩⟩
theorem DsAt.upd {H : Hp} {D : Addr} {n i : Nat} {av ds : List Addr} {b : Addr} {o : HO} (h : DsAt H D n i av ds) (hb : b ∈ av) : DsAt (upd H b o) D n i av ds := ⟨by rw [upd_ne (h.2.1 b hb)]; exact h.1, h.2.1, fun j d e => ⟨by rw [upd_ne ((h.2.2 j d e).2 b hb)]; exact (h.2.2 j d e).1, (h.2.2 j d e).2⟩⟩
theorem DsAt.fresh {H : Hp} {D : Addr} {n i : Nat} {av ds : List Addr} {b : Addr} (h : DsAt H D n i av ds) (hb : H b = none) : DsAt H D n i (b :: av) ds := by
  have g : ∀ (a : Addr) (o : HO), H a = some o → (∀ x ∈ av, a ≠ x) → ∀ x ∈ b :: av, a ≠ x := fun a o e q x hx => by
    rcases List.mem_cons.mp hx with z | z
    · rw [z]; exact fun y => by rw [y, hb] at e; cases e
    · exact q x z
  exact ⟨h.1, g _ _ h.1 h.2.1, fun j d e => ⟨(h.2.2 j d e).1, g _ _ (h.2.2 j d e).1 (h.2.2 j d e).2⟩⟩
theorem DsAt.less {H : Hp} {D : Addr} {n i : Nat} {av ds : List Addr} {b : Addr} (h : DsAt H D n i (b :: av) ds) : DsAt H D n i av ds := ⟨h.1, fun x hx => h.2.1 x (List.mem_cons_of_mem _ hx), fun j d e => ⟨(h.2.2 j d e).1, fun x hx => (h.2.2 j d e).2 x (List.mem_cons_of_mem _ hx)⟩⟩
theorem dg_sm {ss : List Nat} {j m : Nat} (hp : ∀ s ∈ ss, 1 ≤ s ∧ s ≤ m) : ∀ d ∈ dg ss j, d < m := fun d hd => by
  obtain ⟨k, hk, rfl⟩ := List.mem_iff_getElem.mp hd
  rw [dg_len] at hk
  have h := dg_lt (ss := ss) (i := j) (fun s hs => (hp s hs).1) (List.getElem?_eq_getElem (by rw [dg_len]; exact hk)) (List.getElem?_eq_getElem hk)
  have := (hp _ (List.getElem_mem hk)).2
  omega
theorem none_of_same {H H' : Hp} {a : Addr} (s : Same H H') (h : H' a = none) : H a = none := by
  cases e : H a with
  | none => rfl
  | some o => rw [s _ _ e] at h; cases h
def sp_polynomials (CB CL C : Addr) (K : PySem.W.Frag) : Sp := fun vs H Q E => ∃ (p L : Addr) (as : List Addr) (ss : List Stp) (m c i : Nat), vs = [.ref p] ∧ PrAt K C H p L as ss m c i ∧ PrOk ss m c i ∧ ((∀ s ∈ ss, isT s = false) → ∀ s ∈ ss, ∃ t, s = .add t 0 []) ∧ (¬ IsPrime m ∨ (∃ s ∈ ss, isT s = true) → ∀ H', Same H H' → E (.ref CB) none H') ∧
  (IsPrime m → (∀ s ∈ ss, isT s = false) → 400000 < (ss.length + 1) * m ^ (i + c) → ∀ H', Same H H' → E (.ref CL) none H') ∧
  (IsPrime m → (∀ s ∈ ss, isT s = false) → (ss.length + 1) * m ^ (i + c) ≤ 400000 → ∀ l xs H', Same H H' → H' l = some (.lst xs) → xs.length = c → Q (.ref l) H')
theorem ok_polynomials (T : Txt K mg) : FnOk P w K mg base (L2.CX P w) 7 T.a_polynomials T.fd_polynomials ["program"] (sp_polynomials T.E_BadStep T.E_TooLong T.C_Program K) := by
  refine T.F_polynomials.okX sc_polynomials (fun vs H Q E h => ?_) (fun cdv A outer s H vs Q E hr h => ?_)
  · obtain ⟨p, L, as, ss, m, c, i, rfl, _⟩ := h
    rfl
  · obtain ⟨p, L, as, ss, m, c, i, rfl, hP, ok, hA, hB, hL, hQ⟩ := h
    refine ⟨_, (pss_cons (ps_expr (pe_call (ok_check_kind T) (hr.mono (by decide)) (by rfl) T.g_check_kind T.F_check_kind.kp T.b_check_kind .nil (passes_call (takes_of rfl rfl rfl rfl) (fun _ _ _ _ h => h)) (pa_cons (pv 0) pa_nil)))
      (pss_cons (ps_expr (pe_call (ok_check_effort T) (hr.mono (by decide)) (by rfl) T.g_check_effort T.F_check_effort.kp T.b_check_effort .nil (passes_call (takes_of rfl rfl rfl rfl) (fun _ _ _ _ h => h)) (pa_cons (pv 0) pa_nil)))
      (PSs.nox (pss_cons (ps_par (i := 1) (j := 2) rfl sc_polynomials.nd rfl rfl (by decide) rfl rfl (pa_cons (pe_fld (pv 0) rfl) (pa_cons (pe_fld (pv 0) rfl) pa_nil)) (by rfl))
      (pss_cons (ps_set (i := 3) sc_polynomials.nd rfl (.inl rfl) pe_dnewT)
      (pss_cons (ps_set (i := 4) sc_polynomials.nd rfl (.inl rfl) (pe_lst pa_nil))
      (pss_cons (ps_for PassesOwn.never rfl (pi_enum (by rfl) T.m_enumerate (pa_cons (pe_call (ok_degrees_of T) (hr.mono (by decide)) (by rfl) T.g_degrees_of T.F_degrees_of.kp T.b_degrees_of .nil pass0 (pa_cons (pv 0) pa_nil)) pa_nil)) (pg_tup rfl (pgs_cons (pg_name (i := 5) sc_polynomials.nd rfl (Or.inl rfl)) (pgs_cons (pg_name (i := 6) sc_polynomials.nd rfl (Or.inl rfl)) pgs_nil)))
      (pss_cons (ps_setLc (i := 7) (own := [("degree", 10)]) (g := gName 10) (tt := tYes) rfl sc_polynomials.nd rfl rfl (sw_true rfl rfl rfl (by decide +kernel)) (pi_list (pv 6)) (blkOk_by (N := N_polynomials) (sc := defScope s_polynomials) (by decide +kernel)) (fun _ _ _ _ _ => (pg_name (i := 10) sc_polynomials.nd rfl (Or.inl rfl))) (fun _ _ _ _ _ => pts_nil) (fun _ _ _ _ _ => (pe_op op_add (pv 10) pe_int)))
      (pss_cons (ps_set (i := 8) sc_polynomials.nd rfl (.inl rfl) (pe_lst pa_nil))
      (pss_cons (ps_forGn (ok_grid_points T) (hr.mono (by decide)) (by rfl) T.g_grid_points T.F_grid_points.kp T.b_grid_points (fun _ _ h => h) rfl (pa_cons (pv 7) pa_nil) (pg_name (i := 9) sc_polynomials.nd rfl (Or.inl rfl))
      (pss_cons (ps_if (pt_cmp (pc_dnotin (hu_of hr) (pv 9) (pv 3)))
      (pss_one (ps_dput (hu_of hr) (pv 3) (pv 9) (pe_call (ok_performed T) (hr.mono (by decide)) (by rfl) T.g_performed T.F_performed.kp T.b_performed .nil pass0 (pa_cons (pe_fld (pv 0) rfl) (pa_cons (pe_callTy (T := "list") (r := rListOf K) cr_list_of (by rfl) T.m_list (by decide +kernel) (pa_cons (pe_slice (r := rSlA K) sl_tupA (pv 9) (po_some (pv 1)) po_none) pa_nil)) (pa_cons (pe_callTy (T := "list") (r := rListOf K) cr_list_of (by rfl) T.m_list (by decide +kernel) (pa_cons (pe_slice (r := rSlA K) sl_tupA (pv 9) po_none (po_some (pv 1))) pa_nil)) (pa_cons (pv 2) pa_nil))))) rfl))
      pss_nil)
      (pss_one (ps_expr (pe_bm PySem.F.plainAttrs_list PySem.F.slot_list_append PySem.F.type_list_append mt_append (pv 8) (pa_cons (pe_ix (r := rIxL K) ix_list (pe_dget (hu_of hr) (pv 3) (pv 9) (fun _ _ => rfl)) (pv 5) (fun _ _ => rfl)) pa_nil))))))
      (pss_one (ps_expr (pe_bm PySem.F.plainAttrs_list PySem.F.slot_list_append PySem.F.type_list_append mt_append (pv 4) (pa_cons (pe_call (ok_terms T) hr (by rfl) T.g_terms T.F_terms.kp T.b_terms .nil pass0 (pa_cons (pe_call (ok_coefficients T) (hr.mono (by decide)) (by rfl) T.g_coefficients T.F_coefficients.kp T.b_coefficients .nil pass0 (pa_cons (pv 8) (pa_cons (pv 7) (pa_cons (pv 2) pa_nil)))) (pa_cons (pv 7) pa_nil))) pa_nil))))))))
      (pss_one (ps_ret (pv 4)))))))))), ?_⟩
    walk_at "start"
    obtain ⟨dx, hp, hC⟩ := id hP.ob
    have m2 := ok.m2
    have m9 := ok.m9
    have c60 := ok.c60
    have i60 := ok.i60
    have m1 : 1 ≤ m := by omega
    walk_at "x"
    refine ⟨p, L, as, ss, m, c, i, rfl, hP, ok, hB, fun hm hT H1 s1 => ?_⟩
    walk_at "x"
    refine ⟨p, L, as, ss, m, c, i, rfl, hP.same s1, ok, (fun hx H' s => hL hm hT hx H' (s1.trans s)), fun he H2 s2 => ?_⟩
    have q := hQ hm hT he
    have s2 := s1.trans s2
    walk_at "x"
    refine x_fldR (s2 _ _ hp) hC.cl hC.i progF_i ?_
    walk_at "x"
    refine x_fldR (s2 _ _ hp) hC.cl hC.m progF_m ?_
    walk_at "x"
    intro B hB0
    have hBH : H B = none := by
      cases e : H B with
      | none => rfl
      | some o => rw [s2 _ _ e] at hB0; cases hB0
    have s3 := s2.trans (same_upd (o := .dT []) hB0)
    have eB : (upd H2 B (.dT [])) B = some (.dT []) := upd_same
    generalize upd H2 B (.dT []) = H3 at s3 eB
    walk_at "x"
    refine ⟨Nat.zero_le _, fun F hF => ?_⟩
    have hFH : H F = none := by
      cases e : H F with
      | none => rfl
      | some o => rw [s3 _ _ e] at hF; cases hF
    have s4 := s3.trans (same_upd (o := .lst []) hF)
    have eB4 := (same_upd (o := .lst []) hF) _ _ eB
    have eF : (upd H3 F (.lst [])) F = some (.lst []) := upd_same
    have hFB : F ≠ B := fun z => by rw [z, eB] at hF; cases hF
    generalize upd H3 F (.lst []) = H4 at s4 eB4 eF
    walk_at "x"
    refine x_for ?_
    unfold iEnum
    walk_at "x"
    refine ⟨p, L, as, ss, m, c, i, rfl, hP.same s4, ok, hA hT, fun D ds H5 s5 hD hdl hds => ?_⟩
    walk_at "x"
    have hDB : D ≠ B := fun z => by rw [z, s5 _ _ eB4] at hD; cases hD
    have c1 := ok.c1
    have hDF : D ≠ F := fun z => by
      rw [z, s5 _ _ eF] at hD
      have := congrArg List.length (HO.lst.inj (Option.some.inj hD))
      rw [List.length_map, hdl] at this
      have h0 : ([] : List V).length = 0 := rfl
      omega
    have hdsN : DsAt H5 D (i + c) i [B, F] ds := by
      refine ⟨hD, fun b hb => ?_, fun k d h => ?_⟩
      · simp at hb; rcases hb with rfl | rfl
        · exact hDB
        · exact hDF
      have e := hds k d h
      refine ⟨?_, fun b hb => ?_⟩
      · rw [e]; unfold dU; rw [List.map_map]; rfl
      · simp at hb
        rcases hb with rfl | rfl
        · exact fun z => by rw [z, s5 _ _ eB4] at e; cases e
        · intro z
          rw [z, s5 _ _ eF] at e
          have := congrArg List.length (HO.lst.inj (Option.some.inj e))
          rw [List.length_map, List.length_range] at this
          have h0 : ([] : List V).length = 0 := rfl
          omega
    refine ⟨D, ds.map V.ref, rfl, sq_of hD, for_it (D := ⟨_, Q, fun _ _ => False, fun _ _ => False⟩) (walk_enum (K := K) (xs := ds.map V.ref)) (fun k σ' H' => ∃ (v5 v6 v7 v8 v9 v10 : Option V) (kvs : List (List Key × V)) (found : List V), σ' = [some (V.ref p), some (.int (i : Int)), some (.int (m : Int)), some (.ref B), some (.ref F), v5, v6, v7, v8, v9, v10] ∧ Same H H' ∧ H' B = some (.dT kvs) ∧ kvs.length ≤ 2 * k ∧ BehAt H' c [B, F] kvs ∧ H' F = some (.lst found) ∧ found.length = k ∧ DsAt H' D (i + c) i [B, F] ds) ?_ (fun k σ' H' _ z => ?_) ?_ ?_⟩
    · exact ⟨_, _, _, _, _, _, [], [], rfl, s4.trans s5, s5 _ _ eB4, Nat.zero_le _, BehAt.nil, s5 _ _ eF, rfl, hdsN⟩
    · obtain ⟨_, _, _, _, _, _, _, _, _, _, _, _, _, _, _, e⟩ := z
      exact sq_of e.1
    · rintro k _ σ' H' H6 hk ⟨v5, v6, v7, v8, v9, v10, kvs, found, rfl, hs, hBk, hkl, hbeh, hF', hfl, hD'⟩ ⟨t, u, v, rfl, ht, rfl, gu, gv⟩
      cases gu
      obtain ⟨d, gd, rfl⟩ := map_getR gv
      have hk : k < c := by rw [List.length_map] at hk; omega
      refine x_gTup2 (st_of upd_same) ?_
      have sT := same_upd (o := .tup [.int (k : Int), .ref d]) ht
      have hs := hs.trans sT
      have hBk := sT _ _ hBk
      have hbeh := hbeh.same sT
      have hF' := sT _ _ hF'
      have hD' := hD'.same sT
      generalize upd H' t (.tup [.int (k : Int), .ref d]) = H7 at hs hBk hbeh hF' hD'
      walk_at "x"
      refine x_lcPreP ?_
      walk_at "x"
      refine x_lcLI (fun q => q + 1) (hD'.2.2 _ _ gd).1 (by rw [dU_len]; omega) (fun _ => rfl) (fun k x H9 R hs9 _ hR => ?_) fun S H8 hS s8 eS => ?_
      · walk_at "x"
        exact hR
      have hSB : S ≠ B := fun z => by rw [z, hBk] at hS; cases hS
      have hSF : S ≠ F := fun z => by rw [z, hF'] at hS; cases hS
      have hs := hs.trans s8
      have hBk := s8 _ _ hBk
      have hbeh := hbeh.same s8
      have hF' := s8 _ _ hF'
      have hD' := hD'.same s8
      rw [List.map_map] at eS
      have eS : H8 S = some (.lst (nV (szU (i + c) (i + k)))) := by rw [eS, ← szU_dU]; rfl
      have hprod : prodL (szU (i + c) (i + k)) = 2 := by rw [szU_prod, if_pos (by omega)]
      have hle : ∀ s ∈ szU (i + c) (i + k), 1 ≤ s ∧ s ≤ 2 := fun s h => szU_le h
      have hszl : (szU (i + c) (i + k)).length = i + c := szU_len
      generalize szU (i + c) (i + k) = szs at eS hprod hle hszl
      walk_at "x"
      refine ⟨Nat.zero_le _, fun Cn hCn => ?_⟩
      have hCH := none_of_same hs hCn
      have s9 := same_upd (o := .lst []) hCn
      have hCB : Cn ≠ B := fun z => by rw [z, hBk] at hCn; cases hCn
      have hCF : Cn ≠ F := fun z => by rw [z, hF'] at hCn; cases hCn
      have hSC : S ≠ Cn := ne_of_none eS hCn
      have hs := hs.trans s9
      have hBk := s9 _ _ hBk
      have hbeh := (hbeh.fresh hCn).same s9
      have hF' := s9 _ _ hF'
      have hD' := (hD'.fresh hCn).same s9
      have eS := s9 _ _ eS
      have eC : (upd H8 Cn (.lst [])) Cn = some (.lst (([] : List Int).map V.int)) := upd_same
      generalize upd H8 Cn (.lst []) = H9 at hs hBk hbeh hF' hD' eS eC
      walk_at "x"
      refine x_forG ?_
      walk_at "x"
      refine ⟨[(S, nV szs)], prodL szs, fun i => nV (dg szs i), ⟨S, szs, rfl, eS, fun s h => (hle s h).1, by omega, rfl, rfl, rfl⟩, fun x hx => by rw [List.mem_singleton.mp hx]; exact eS,
        fun j σ' H' => ∃ (v9 v10 : Option V) (kvs : List (List Key × V)) (conts : List Int), σ' = [some (V.ref p), some (.int (i : Int)), some (.int (m : Int)), some (.ref B), some (.ref F), some (.int (k : Int)), some (.ref d), some (.ref S), some (.ref Cn), v9, v10] ∧ Same H H' ∧ H' B = some (.dT kvs) ∧ kvs.length ≤ 2 * k + j ∧ BehAt H' c [Cn, B, F] kvs ∧ H' F = some (.lst found) ∧ DsAt H' D (i + c) i [Cn, B, F] ds ∧ H' S = some (.lst (nV szs)) ∧ H' Cn = some (.lst (conts.map V.int)) ∧ conts.length = j,
        ⟨_, _, kvs, [], rfl, hs, hBk, hkl, hbeh, hF', hD', eS, eC, rfl⟩, fun j σ' H' _ w x hx => ?_, ?_, ?_⟩
      · obtain ⟨_, _, _, _, _, _, _, _, _, _, _, e, _⟩ := w
        rw [List.mem_singleton.mp hx]
        exact e
      · rintro j σ' H' hj ⟨v9, v10, kvs, conts, rfl, hs, hBk, hkl, hbeh, hF', hD', eS, eC, hcl⟩ r hr
        have sR := same_upd (o := .tup (nV (dg szs j))) hr
        have eN : (upd H' r (.tup (nV (dg szs j)))) r = some (.tup (nV (dg szs j))) := upd_same
        have hs := hs.trans sR
        have hrB : r ≠ B := fun z => by rw [z, hBk] at hr; cases hr
        have hBk := sR _ _ hBk
        have hbeh := hbeh.same sR
        have hF' := sR _ _ hF'
        have hD' := hD'.same sR
        have eS := sR _ _ eS
        have eC := sR _ _ eC
        generalize upd H' r (.tup (nV (dg szs j))) = HA at hs hBk hbeh hF' hD' eS eC eN
        walk_at "x"
        refine x_dnotT ?_
        walk_at "x"
        refine ⟨B, _, rfl, DGet.t hBk (by rw [ptK_kV]; exact eN), ?_⟩
        cases hv0 : valV kvs (ptK (dg szs j)) with
        | some v =>
          have hv := hv0
          obtain ⟨l, ys, rfl, hl1, hl2, hl3⟩ := hbeh _ _ hv
          refine ⟨_, rfl, ?_⟩
          rw [if_neg (show ¬ ((!(some (V.ref l)).isSome) = true) from fun z => Bool.noConfusion z)]
          have hkl : kvs.length ≤ 2 * k + (j + 1) := by omega
          walk_at "x"
          refine x_tyL eC ?_
          walk_at "x"
          refine x_dgetT ?_
          walk_at "x"
          refine ⟨B, .ref l, rfl, (by rw [← hv]; exact DGet.t hBk (by rw [ptK_kV]; exact eN)), ?_⟩
          walk_at "x"
          refine x_ixL (v := .int (ys.getD k 0)) (sq_of hl1) (atI_nat (by rw [List.getElem?_map, List.getElem?_eq_getElem (by omega), List.getD_eq_getElem?_getD, List.getElem?_eq_getElem (by omega)]; rfl)) ?_
          walk_at "x"
          refine x_app eC (by rw [List.length_map, hcl]; exact Nat.lt_of_lt_of_le (show j < 1000 by omega) (by decide)) ?_
          refine ⟨_, _, kvs, conts ++ [ys.getD k 0], rfl, sput hs hCH, by rw [upd_ne (Ne.symm hCB)]; exact hBk, hkl, hbeh.upd (by simp), by rw [upd_ne (Ne.symm hCF)]; exact hF', hD'.upd (by simp), by rw [upd_ne hSC]; exact eS, by rw [upd_same, List.map_append]; rfl, by rw [List.length_append, hcl]; rfl⟩
        | none =>
          refine ⟨_, rfl, ?_⟩
          rw [if_pos (by rfl)]
          refine x_dputT ?_
          walk_at "x"
          refine x_fldR (hs _ _ hp) hC.cl hC.s progF_s ?_
          have hlen : (nV (dg szs j)).length = i + c := by rw [List.length_map, dg_len, hszl]
          have hsm : ∀ d ∈ dg szs j, d < m := dg_sm fun s h => ⟨(hle s h).1, Nat.le_trans (hle s h).2 m2⟩
          refine x_slFrom ?_
          walk_at "x"
          refine ⟨_, rfl, x_slAJ eN fun u2 H8 s8 e8 => ?_⟩
          rw [cutV_from (by rw [hlen]; omega), ← List.map_drop, show ((dg szs j).drop i).map (fun n => V.int ((n : Nat) : Int)) = (zI ((dg szs j).drop i)).map V.int by unfold zI; rw [List.map_map]; rfl] at e8
          walk_at "x"
          refine x_listT (st_of e8) fun ma hma => ?_
          have s9 := s8.trans (same_upd (o := .lst ((zI ((dg szs j).drop i)).map V.int)) hma)
          have e9 : (upd H8 ma (.lst ((zI ((dg szs j).drop i)).map V.int))) ma = some (.lst ((zI ((dg szs j).drop i)).map V.int)) := upd_same
          generalize upd H8 ma (.lst ((zI ((dg szs j).drop i)).map V.int)) = H9 at s9 e9
          walk_at "x"
          refine x_slTo ?_
          walk_at "x"
          refine ⟨_, rfl, x_slAJ (s9 _ _ eN) fun u HB s10 e6 => ?_⟩
          rw [cutV_to (by rw [hlen]; omega), ← List.map_take, show ((dg szs j).take i).map (fun n => V.int ((n : Nat) : Int)) = (zI ((dg szs j).take i)).map V.int by unfold zI; rw [List.map_map]; rfl] at e6
          walk_at "x"
          refine x_listT (st_of e6) fun ga hga => ?_
          have s11 := s10.trans (same_upd (o := .lst ((zI ((dg szs j).take i)).map V.int)) hga)
          have e7 : (upd HB ga (.lst ((zI ((dg szs j).take i)).map V.int))) ga = some (.lst ((zI ((dg szs j).take i)).map V.int)) := upd_same
          generalize upd HB ga (.lst ((zI ((dg szs j).take i)).map V.int)) = HC at s11 e7
          have e9 := s11 _ _ e9
          have s9 := s9.trans s11
          have s09 := hs.trans s9
          have mm : Mem m c (zI ((dg szs j).drop i)) := zI_mem (by rw [List.length_drop, dg_len, hszl]; omega) fun d hd => hsm d (List.mem_of_mem_drop hd)
          walk_at "x"
          refine ⟨L, ma, ga, as, ss, m, c, i, _, _, rfl, sq_of (s09 _ _ hP.lst), (hP.same s09).st, ok, sq_of e9, e7, mm, zI_mem (by rw [List.length_take, dg_len, hszl]; omega) fun d hd => hsm d (List.mem_of_mem_take hd), fun l HD hl0 sD hl1 => ?_⟩
          have hl2 := (runF_mem (inp := zI ((dg szs j).take i)) m1 mm ok.ok).len
          generalize runF m (zI ((dg szs j).take i)) ss (zI ((dg szs j).drop i)) = ys at hl1 hl2
          have sA := s9.trans sD
          have hlB : l ≠ B := fun z => by rw [z, s9 _ _ hBk] at hl0; cases hl0
          have hlF : l ≠ F := fun z => by rw [z, s9 _ _ hF'] at hl0; cases hl0
          have hlC : l ≠ Cn := fun z => by rw [z, s9 _ _ eC] at hl0; cases hl0
          have hs := hs.trans sA
          have hBk := sA _ _ hBk
          have hbeh := hbeh.same sA
          have hF' := sA _ _ hF'
          have hD' := hD'.same sA
          have eS := sA _ _ eS
          have eC := sA _ _ eC
          have eN := sA _ _ eN
          walk_at "x"
          refine ⟨B, _, rfl, DPut.t hBk (by rw [ptK_kV]; exact eN) (Nat.lt_of_lt_of_le (show kvs.length < 1000 by omega) (by decide)), ?_⟩
          have hv : valV (putK kvs (ptK (dg szs j)) (.ref l)) (ptK (dg szs j)) = some (.ref l) := by rw [valV_put, if_pos rfl]
          have hkl : (putK kvs (ptK (dg szs j)) (.ref l)).length ≤ 2 * k + (j + 1) := by
            rw [putK_new _ hv0, List.length_append, List.length_singleton]
            omega
          have hbeh := ((hbeh.put (k := ptK (dg szs j)) hl1 hl2 (fun b hb => by simp at hb; rcases hb with rfl | rfl | rfl <;> assumption)).upd (b := B) (o := .dT (putK kvs (ptK (dg szs j)) (.ref l))) (by simp))
          have hs := sput (o := .dT (putK kvs (ptK (dg szs j)) (.ref l))) hs hBH
          have hF' := (show (upd HD B (.dT (putK kvs (ptK (dg szs j)) (.ref l)))) F = some (.lst found) by rw [upd_ne hFB]; exact hF')
          have hD' := hD'.upd (b := B) (o := .dT (putK kvs (ptK (dg szs j)) (.ref l))) (by simp)
          have eS := (show (upd HD B (.dT (putK kvs (ptK (dg szs j)) (.ref l)))) S = some (.lst (nV szs)) by rw [upd_ne hSB]; exact eS)
          have eC := (show (upd HD B (.dT (putK kvs (ptK (dg szs j)) (.ref l)))) Cn = some (.lst (conts.map V.int)) by rw [upd_ne hCB]; exact eC)
          have eN := (show (upd HD B (.dT (putK kvs (ptK (dg szs j)) (.ref l)))) r = some (.tup (nV (dg szs j))) by rw [upd_ne hrB]; exact eN)
          have hl1 := (show (upd HD B (.dT (putK kvs (ptK (dg szs j)) (.ref l)))) l = some (.lst (ys.map V.int)) by rw [upd_ne hlB]; exact hl1)
          have hBk : (upd HD B (.dT (putK kvs (ptK (dg szs j)) (.ref l)))) B = some (.dT (putK kvs (ptK (dg szs j)) (.ref l))) := upd_same
          generalize upd HD B (.dT (putK kvs (ptK (dg szs j)) (.ref l))) = HE at hs hBk hbeh hF' hD' eS eC eN hl1
          generalize putK kvs (ptK (dg szs j)) (.ref l) = kvs at hv hkl hbeh hBk
          walk_at "x"
          refine x_tyL eC ?_
          walk_at "x"
          refine x_dgetT ?_
          walk_at "x"
          refine ⟨B, .ref l, rfl, (by rw [← hv]; exact DGet.t hBk (by rw [ptK_kV]; exact eN)), ?_⟩
          walk_at "x"
          refine x_ixL (v := .int (ys.getD k 0)) (sq_of hl1) (atI_nat (by rw [List.getElem?_map, List.getElem?_eq_getElem (by omega), List.getD_eq_getElem?_getD, List.getElem?_eq_getElem (by omega)]; rfl)) ?_
          walk_at "x"
          refine x_app eC (by rw [List.length_map, hcl]; exact Nat.lt_of_lt_of_le (show j < 1000 by omega) (by decide)) ?_
          refine ⟨_, _, kvs, conts ++ [ys.getD k 0], rfl, sput hs hCH, by rw [upd_ne (Ne.symm hCB)]; exact hBk, hkl, hbeh.upd (by simp), by rw [upd_ne (Ne.symm hCF)]; exact hF', hD'.upd (by simp), by rw [upd_ne hSC]; exact eS, by rw [upd_same, List.map_append]; rfl, by rw [List.length_append, hcl]; rfl⟩
      · rintro σ' H' ⟨v9, v10, kvs, conts, rfl, hs, hBk, hkl, hbeh, hF', hD', eS, eC, hcl⟩
        walk_at "x"
        rw [hprod] at hkl hcl
        refine x_tyL hF' ?_
        walk_at "x"
        refine ⟨Cn, S, conts, szs, m, rfl, eC, eS, hm, m9, fun s h => ⟨(hle s h).1, Nat.le_trans (hle s h).2 m2, Nat.le_trans (hle s h).2 (by decide)⟩, by omega, by rw [hcl, hprod], by omega, fun l ys HF sF hl hyl => ?_⟩
        walk_at "x"
        refine ⟨l, S, ys, szs, rfl, hl, sF _ _ eS, fun s h => (hle s h).1, by omega, by rw [hyl, hcl, hprod], by omega, fun w HG sG => ?_⟩
        walk_at "x"
        have sH := sF.trans sG
        have hs := hs.trans sH
        have hBk := sH _ _ hBk
        have hbeh := (hbeh.same sH).less
        have hF' := sH _ _ hF'
        have hD' := (hD'.same sH).less
        refine x_app hF' (Nat.lt_of_lt_of_le (show _ < 1000 by omega) (by decide)) ?_
        exact ⟨_, _, _, _, _, _, kvs, found ++ [.ref w], rfl, sput hs hFH, by rw [upd_ne (Ne.symm hFB)]; exact hBk, by omega, hbeh.upd (by simp), upd_same, by rw [List.length_append, hfl]; rfl, hD'.upd (by simp)⟩
    · rintro σ' H' ⟨v5, v6, v7, v8, v9, v10, kvs, found, rfl, hs, hBk, hkl, hbeh, hF', hfl, hD'⟩
      rw [List.length_map, hdl] at hfl
      walk_at "x"
      exact ⟨_, rfl, hQ hm hT he F found H' hs hF' hfl⟩


end
end Br
namespace Br
open PySem PySem.Spec PyProof.Rows L2
local macro_rules | `(tactic| walk_at "x1") => `(tactic| (with_reducible first
  | refine Br.x_seq ?_ | refine Br.x_set ?_ | refine Br.x_asg ?_ | refine Br.x_next ?_ | refine Br.x_ret ?_ | refine Br.x_retN ?_ | refine Br.x_drop ?_ | refine Br.x_if ?_ | refine Br.x_brk ?_ | refine Br.x_cont ?_
  | refine Br.x_c ?_ | refine Br.x_op ?_ | refine Br.x_un ?_ | refine Br.x_I0 ?_ | refine Br.x_U ?_ | refine Br.x_EqI ?_ | refine Br.x_NeI ?_ | refine Br.x_EqB ?_ | refine Br.x_iN ?_ | refine Br.x_int1 ?_ | refine Br.x_min2 ?_ | refine Br.x_max2 ?_ | refine Br.x_nN ?_ | refine Br.x_ifE ?_
  | refine Br.x_test (b := ()) ?_ | refine Br.x_tB ?_ | refine Br.x_bl ?_ | refine Br.x_and ?_ | refine Br.x_or ?_ | refine Br.x_not ?_ | refine Br.x_andV ?_ | refine Br.x_orV ?_ | refine Br.x_notV ?_ | refine Br.x_blP ?_
  | refine Br.x_nil ?_ | refine Br.x_cons ?_ | refine Br.x_call ?_ | refine Br.x_CB ?_ | refine Br.x_BM ?_ | refine Br.x_tup ?_ | refine Br.x_lst ?_ | refine Br.x_chain ?_ | refine Br.x_par ?_ | refine Br.x_gSub ?_ | refine Br.x_gName ?_ | refine Br.x_fld ?_ | refine Br.x_fldS ?_ | refine Br.x_match ?_ | refine Br.x_else ?_ | refine Br.x_noCase ?_))
local macro_rules | `(tactic| walk_at "xv") => `(tactic| ((with_reducible refine' Br.x_var ?hvar ?_); (case hvar => rfl)))
local macro_rules | `(tactic| walk_at "xd") => `(tactic| (dsimp only [List.set_cons_zero, List.set_cons_succ, List.cons_append, List.nil_append, List.append_nil]))
local macro_rules | `(tactic| walk_at "xi") => `(tactic| ((with_reducible refine Br.x_I ?hside ?_); (case hside => first | exact Br.mul_r (by decide) (by decide) | exact Br.mul_l (by decide) (by decide) | exact Br.mul_l (by omega) (by omega) | exact Br.mul_r (by omega) (by omega) | (show (0 : Int) < _; first | decide | omega) | exact ⟨by decide, by decide⟩ | exact ⟨by omega, by omega⟩ | exact ⟨by decide, by decide, by decide⟩)))
local macro_rules | `(tactic| walk_at "x") => `(tactic| (repeat (first | walk_at "x1" | walk_at "xv" | walk_at "xi" | walk_at "xd")))
local macro_rules | `(tactic| walk_at "start") => `(tactic| (simp only [L2.start, List.map_cons, List.map_nil, List.length_cons, List.length_nil, Nat.reduceAdd, Nat.reduceSub, List.replicate, List.cons_append, List.nil_append, List.append_nil]))
local macro_rules | `(tactic| walk_at "isi") => `(tactic| first
  | refine Br.x_isi (b := true) (.base (.int _)) (by decide +kernel) ?_ | refine Br.x_isi (b := false) (.base (.int _)) (by decide +kernel) ?_
  | refine Br.x_isi (b := true) (.base (.bl _)) (by decide +kernel) ?_ | refine Br.x_isi (b := false) (.base (.bl _)) (by decide +kernel) ?_
  | refine Br.x_isi (b := false) (.base .non) (by decide +kernel) ?_
  | refine Br.x_isi (b := true) (.base (.str _)) (by decide +kernel) ?_ | refine Br.x_isi (b := false) (.base (.str _)) (by decide +kernel) ?_
  | refine Br.x_isi (b := true) (.base (.tup (by assumption))) (by decide +kernel) ?_ | refine Br.x_isi (b := false) (.base (.tup (by assumption))) (by decide +kernel) ?_
  | refine Br.x_isi (b := true) (.base (.lst (by assumption))) (by decide +kernel) ?_ | refine Br.x_isi (b := false) (.base (.lst (by assumption))) (by decide +kernel) ?_)
local macro_rules | `(tactic| walk_at "f") => `(tactic| (refine L2.iteF ?_; walk_at "x"))
local macro_rules | `(tactic| walk_at "t") => `(tactic| (refine L2.iteT ?_; walk_at "x"))
local macro_rules | `(tactic| walk_at "is") => `(tactic| (walk_at "isi"; walk_at "x"))
local macro_rules | `(tactic| walk_at "xb") => `(tactic| (simp only [Br.bindS, List.set_cons_zero, List.set_cons_succ]; walk_at "x"))

section
variable {P : Program} {w : World} {K : PySem.W.Frag} {mg : Str → Option Value} {base : Heap}

open Br Br.F
theorem x_break46 {σ : L2.St} {H : Hp} {D : Ends} (h : D.bk σ H) : D.bk σ H := h

def sp_law_is_prime (K : PySem.W.Frag) : Sp := fun vs H Q _ => ∃ n : Int, vs = [.int n] ∧ 2 ≤ n ∧ n < 2000000000 ∧ (n < 1440000 ∨ PrimeI n) ∧ ∀ b : Bool, (b = true ↔ PrimeI n) → Q (.bl b) H
theorem ok_law_is_prime (T : Txt K mg) : FnOk P w K mg base CX0 1 T.a_law_is_prime T.fd_law_is_prime ["number"] (sp_law_is_prime K) := by
  refine T.F_law_is_prime.ok sc_law_is_prime (fun vs H Q E h => ?_) (fun cdv A outer s H vs Q E hr h => ?_)
  · obtain ⟨n, rfl, _⟩ := h
    rfl
  · obtain ⟨n, rfl, h0, h1, hor, q⟩ := h
    refine ⟨_, (pss_cons (ps_for PassesOwn.never rfl (pi_range2 (by rfl) T.m_range (pa_cons pe_int (pa_cons pe_int pa_nil))) (pg_name (i := 1) sc_law_is_prime.nd rfl (Or.inl rfl))
      (pss_cons (ps_if (pt_cmpR op_gt (pe_op op_mul (pv 1) (pv 1)) (pv 0) (nomark _))
      (pss_one ps_break)
      pss_nil)
      (pss_one (ps_if (pt_cmpR op_eq (pe_op op_mod (pv 0) (pv 1)) pe_int (nomark _))
      (pss_one (ps_ret pe_bl))
      pss_nil))))
      (pss_one (ps_ret (pe_cmpR op_gt (pv 0) pe_int (nomark _))))), ?_⟩
    walk_at "start"
    walk_at "x"
    refine x_forR2 2 1200 (fun i σ' H' => ∃ v, σ' = [some (.int n), v] ∧ H' = H ∧ ∀ d : Int, 2 ≤ d → d < 2 + (i : Int) → n % d ≠ 0) (fun R k => k) (fun R k => k) (by decide) (by decide) (by decide) (by decide) ?_ ?_ ?_
    · exact ⟨none, rfl, rfl, fun d h2 h3 => by omega⟩
    · rintro i σ' H' hi ⟨v, rfl, rfl, hI⟩
      walk_at "x"
      refine x_ite (fun hd => ?_) (fun hd => ?_)
      · walk_at "x"
        rw [decide_eq_true (show n > 1 by omega)]
        refine q _ ⟨fun _ => ⟨by omega, fun d h2 h3 => hI d h2 ?_⟩, fun _ => rfl⟩
        by_cases hh : d < 2 + (i : Int)
        · exact hh
        · have : (2 + (i : Int)) * (2 + (i : Int)) ≤ d * d := Int.mul_le_mul (by omega) (by omega) (by omega) (by omega)
          omega
      · walk_at "x"
        refine x_ite (fun hm => ?_) (fun hm => ?_)
        · walk_at "x"
          exact q _ ⟨fun e => (by cases e), fun e => absurd hm (e.2 _ (by omega) (by omega))⟩
        · walk_at "x"
          refine ⟨_, rfl, rfl, fun d h2 h3 => ?_⟩
          by_cases h4 : d < 2 + (i : Int)
          · exact hI d h2 h4
          · have h5 : d = 2 + (i : Int) := by omega
            rw [h5]; exact hm
    · rintro σ' H' ⟨v, rfl, rfl, hI⟩
      walk_at "x"
      rw [decide_eq_true (show n > 1 by omega)]
      refine q _ ⟨fun _ => ?_, fun _ => rfl⟩
      rcases hor with hlt | hp
      · refine ⟨by omega, fun d h2 h3 => hI d h2 ?_⟩
        by_cases hh : d < 1200
        · omega
        · have : (1200 : Int) * 1200 ≤ d * d := Int.mul_le_mul (by omega) (by omega) (by omega) (by omega)
          omega
      · exact hp


/-- which of the two it is -/
def kdc (T : Txt K mg) : Bool → Addr
  | true => T.E_BadStep
  | false => T.E_TooLong
theorem kit46 {K : PySem.W.Frag} {t a b : Value} (h1 : PySem.W.kitOne K t a = some false) (h2 : PySem.W.kitOne K t b = some false) : PySem.W.kitAny K t [a, b] = some false :=
  kitAny_cons h1 (fun _ => kitAny_cons h2 (fun _ => kitAny_nil) (fun z => nomatch z)) (fun z => nomatch z)
def sp_law_kind (cl : Bool → Addr) (K : PySem.W.Frag) : Addr × Obj → Sp := fun p vs H Q _ => ∃ b : Bool, vs = [.ref p.1] ∧ Zc (.ref (cl b)) none p.2 ∧ (∃ us, p.2.data = .fields us) ∧ ExcC K (cl b) ∧ ∀ H', Same H H' → Q (.str (if b = true then "step" else "long")) H'
theorem ok_law_kind (T : Txt K mg) : FnE P w K mg base 1 T.a_law_kind T.fd_law_kind ["refused"] (sp_law_kind (kdc T) K) := by
  refine T.F_law_kind.okE sc_law_kind (fun p vs H Q E h => ?_) (fun cdv A outer s H vs Q E p hr h => ?_)
  · obtain ⟨b, rfl, _⟩ := h
    rfl
  · obtain ⟨b, rfl, hz, hf, hE, q⟩ := h
    refine ⟨_, (pss_cons (ps_if (PW.pt (pw_and (pt_val (pe_callB (id := "isinstance") (r := rIsEP K p) (call_isEP List.mem_cons_self) (by rfl) T.m_isinstance (by decide +kernel) (pa_cons (pv 0) (pa_cons (pe_glob (v := .ref T.E_BadStep) (by rfl) T.gE_BadStep rfl) pa_nil)))) (pw_and1 (pt_not (pt_val (pe_callB (id := "isinstance") (r := rIsEPT K p) (call_isEPT List.mem_cons_self) (by rfl) T.m_isinstance (by decide +kernel) (pa_cons (pv 0) (pa_cons (pe_tup (pa_cons (pe_glob (v := .ref T.E_BadMemory) (by rfl) T.gE_BadMemory rfl) (pa_cons (pe_glob (v := .ref T.E_TooLong) (by rfl) T.gE_TooLong rfl) pa_nil))) pa_nil))))))))
      (pss_one (ps_ret pe_str))
      pss_nil)
      (pss_cons (ps_if (PW.pt (pw_and (pt_val (pe_callB (id := "isinstance") (r := rIsEP K p) (call_isEP List.mem_cons_self) (by rfl) T.m_isinstance (by decide +kernel) (pa_cons (pv 0) (pa_cons (pe_glob (v := .ref T.E_TooLong) (by rfl) T.gE_TooLong rfl) pa_nil)))) (pw_and1 (pt_not (pt_val (pe_callB (id := "isinstance") (r := rIsEPT K p) (call_isEPT List.mem_cons_self) (by rfl) T.m_isinstance (by decide +kernel) (pa_cons (pv 0) (pa_cons (pe_tup (pa_cons (pe_glob (v := .ref T.E_BadMemory) (by rfl) T.gE_BadMemory rfl) (pa_cons (pe_glob (v := .ref T.E_BadStep) (by rfl) T.gE_BadStep rfl) pa_nil))) pa_nil))))))))
      (pss_one (ps_ret pe_str))
      pss_nil)
      (pss_one (ps_ret pe_str)))), ?_⟩
    walk_at "start"
    walk_at "x"
    cases b with
    | true =>
      refine ⟨_, T.E_BadStep, _, rfl, hz, hf, hE, kit_ref T.dE_BadStep T.tE_BadStep T.sE_BadStep_BadStep T.sE_BadStep_BadStep, ?_⟩
      walk_at "x"
      walk_at "t"
      refine ⟨by show 2 ≤ sizeLine; decide, fun tp htp => ?_⟩
      have s1 := same_upd (o := .tup [.ref T.E_BadMemory, .ref T.E_TooLong]) htp
      refine ⟨_, tp, _, [.ref T.E_BadMemory, .ref T.E_TooLong], false, rfl, hz, hf, hE, upd_same, .cons (.own _) (.cons (.own _) .nil), kit46 (kit_ref T.dE_BadMemory T.tE_BadMemory T.sE_BadStep_BadMemory T.sE_BadMemory_BadMemory) (kit_ref T.dE_TooLong T.tE_TooLong T.sE_BadStep_TooLong T.sE_TooLong_TooLong), ?_⟩
      walk_at "x"
      exact q _ s1
    | false =>
      refine ⟨_, T.E_BadStep, _, rfl, hz, hf, hE, kit_ref T.dE_BadStep T.tE_BadStep T.sE_TooLong_BadStep T.sE_BadStep_BadStep, ?_⟩
      walk_at "x"
      walk_at "f"
      walk_at "x"
      refine ⟨_, rfl, _, T.E_TooLong, _, rfl, hz, hf, hE, kit_ref T.dE_TooLong T.tE_TooLong T.sE_TooLong_TooLong T.sE_TooLong_TooLong, ?_⟩
      walk_at "x"
      walk_at "t"
      refine ⟨by show 2 ≤ sizeLine; decide, fun tp htp => ?_⟩
      have s1 := same_upd (o := .tup [.ref T.E_BadMemory, .ref T.E_BadStep]) htp
      refine ⟨_, tp, _, [.ref T.E_BadMemory, .ref T.E_BadStep], false, rfl, hz, hf, hE, upd_same, .cons (.own _) (.cons (.own _) .nil), kit46 (kit_ref T.dE_BadMemory T.tE_BadMemory T.sE_TooLong_BadMemory T.sE_BadMemory_BadMemory) (kit_ref T.dE_BadStep T.tE_BadStep T.sE_TooLong_BadStep T.sE_BadStep_BadStep), ?_⟩
      walk_at "x"
      exact q _ s1

theorem kdc_brim (T : Txt K mg) : ∀ b, PySem.W.exmOne K (.ref (kdc T b)) (.ref T.E_BrimfulError) = some true
  | true => PySem.W.exm_ref T.bE_BrimfulError T.dE_BrimfulError T.tE_BrimfulError T.sE_BadStep_BrimfulError
  | false => PySem.W.exm_ref T.bE_BrimfulError T.dE_BrimfulError T.tE_BrimfulError T.sE_TooLong_BrimfulError
theorem kdc_exc (T : Txt K mg) : ∀ b, ExcC K (kdc T b)
  | true => T.cE_BadStep
  | false => T.cE_TooLong
/-- what is due -/
def dueP (m c i : Nat) (ss : List Stp) (bad : Prop) (R : String → Prop) : Prop := ((¬ IsPrime m ∨ (∃ s ∈ ss, isT s = true)) ∨ bad → R "step") ∧ (¬ bad → IsPrime m → (∀ s ∈ ss, isT s = false) → 400000 < (ss.length + 1) * m ^ (i + c) → R "long") ∧ (¬ bad → IsPrime m → (∀ s ∈ ss, isT s = false) → (ss.length + 1) * m ^ (i + c) ≤ 400000 → R "none")

def sp_law_expanded (C : Addr) (K : PySem.W.Frag) : Sp := fun vs H Q _ => ∃ (p L : Addr) (as : List Addr) (ss : List Stp) (m c i : Nat), vs = [.ref p] ∧ PrAt K C H p L as ss m c i ∧ PrOk ss m c i ∧ ((∀ s ∈ ss, isT s = false) → ∀ s ∈ ss, ∃ t, s = .add t 0 []) ∧ dueP m c i ss False fun w => ∀ H', Same H H' → Q (.str w) H'
theorem ok_law_expanded (T : Txt K mg) : FnOk P w K mg base CX0 8 T.a_law_expanded T.fd_law_expanded ["program"] (sp_law_expanded T.C_Program K) := by
  refine T.F_law_expanded.ok sc_law_expanded (fun vs H Q E h => ?_) (fun cdv A outer s H vs Q E hr h => ?_)
  · obtain ⟨p, L, as, ss, m, c, i, rfl, _⟩ := h
    rfl
  · obtain ⟨p, L, as, ss, m, c, i, rfl, hP, ok, hA, hB, hL, hN⟩ := h
    refine ⟨_, (pss_cons (ps_try_as (i := 2) rfl rfl sc_law_expanded.nd rfl rfl ⟨rfl, by decide, .inl T.gE_BrimfulError⟩ takes0 (fun W pn xe tk _ => (pss_one (ps_set (i := 1) sc_law_expanded.nd rfl (.inl rfl) (pe_callS (sp := sp_polynomials T.E_BadStep T.E_TooLong T.C_Program K) (E := WE W) (ok_polynomials T) hr (by rfl) T.g_polynomials T.F_polynomials.kp T.b_polynomials (fun σ => passAt tk σ) (pa_cons (pv 0) pa_nil)))))
      (fun a oe cls d pn hz hf => (pss_one (ps_ret (pe_callE (E := E0) (k := 1) List.mem_cons_self hz hf (ok_law_kind T) ⟨(hr.mono (j := 1) (by decide)).dp, (hr.mono (j := 1) (by decide)).un⟩ (by rfl) T.g_law_kind T.F_law_kind.kp T.b_law_kind (pa_cons (pv 2) pa_nil))))))
      (pss_cons (ps_if (PW.pt (pw_or (pt_not (pt_val (pe_callB (id := "isinstance") (r := rIsi K) call_isi (by rfl) T.m_isinstance (by decide +kernel) (pa_cons (pv 1) (pa_cons (pe_bltn (v := .ty "list") (by rfl) T.m_list (by decide +kernel) rfl) pa_nil))))) (pw_or1 (pt_cmpR op_ne (pe_callB (id := "len") (r := rLen K) cr_len (by rfl) T.m_len PySem.boot_len (pa_cons (pv 1) pa_nil)) (pe_fld (pv 0) rfl) (nomark _)))))
      (pss_one (ps_ret pe_str))
      pss_nil)
      (pss_one (ps_ret pe_str)))), ?_⟩
    walk_at "start"
    walk_at "x"
    obtain ⟨dx, hp, hC⟩ := id hP.ob
    refine x_callS ?_
    walk_at "x"
    refine ⟨p, L, as, ss, m, c, i, rfl, hP, ok, hA, fun h H1 s1 => ?_, fun h1 h2 h3 H1 s1 => ?_, fun h1 h2 h3 l xs H1 s1 hl hxs => ?_⟩
    · refine ⟨true, kdc_brim T true, (fun _ e he => ?_), (fun z => nomatch z)⟩
      walk_at "x"
      refine x_callE ?_
      walk_at "x"
      intro oe hz hf
      refine ⟨true, rfl, hz, hf, kdc_exc T true, fun H2 s2 => ?_⟩
      exact hB (.inl h) H2 (s1.trans s2)
    · refine ⟨true, kdc_brim T false, (fun _ e he => ?_), (fun z => nomatch z)⟩
      walk_at "x"
      refine x_callE ?_
      walk_at "x"
      intro oe hz hf
      refine ⟨false, rfl, hz, hf, kdc_exc T false, fun H2 s2 => ?_⟩
      exact hL (fun z => z) h1 h2 h3 H2 (s1.trans s2)
    · have q := hN (fun z => z) h1 h2 h3
      walk_at "x"
      refine x_isi (b := true) (.base (.lst hl)) (by decide +kernel) ?_
      walk_at "x"
      walk_at "f"
      refine x_len (sq_of hl) ?_
      walk_at "x"
      refine x_fldR (s1 _ _ hp) hC.cl hC.c progF_c ?_
      walk_at "x"
      rw [hxs, decide_eq_true (show (c : Int) = (c : Int) from rfl)]
      walk_at "f"
      exact q H1 s1


def sp_law_judged (C : Addr) (K : PySem.W.Frag) : Sp := fun vs H Q _ => ∃ (p L : Addr) (as : List Addr) (ss : List Stp) (m c i : Nat) (tv : V), vs = [.ref p, tv] ∧ PrAt K C H p L as ss m c i ∧ PrOk ss m c i ∧ Odd H tv ∧ (∀ t : Nat, t < c → IsPrime m → (∀ s ∈ ss, isT s = false) → verdF m c i ss t = .no) ∧ dueP m c i ss (isB tv (c : Int) = false) fun w => ∀ H', Same H H' → Q (.str w) H'
theorem ok_law_judged (T : Txt K mg) : FnOk P w K mg base CX0 7 T.a_law_judged T.fd_law_judged ["program", "target"] (sp_law_judged T.C_Program K) := by
  refine T.F_law_judged.ok sc_law_judged (fun vs H Q E h => ?_) (fun cdv A outer s H vs Q E hr h => ?_)
  · obtain ⟨p, L, as, ss, m, c, i, tv, rfl, _⟩ := h
    rfl
  · obtain ⟨p, L, as, ss, m, c, i, tv, rfl, hP, ok, hO, hA, hB, hL, hN⟩ := h
    refine ⟨_, (pss_cons (ps_try_as (i := 2) rfl rfl sc_law_judged.nd rfl rfl ⟨rfl, by decide, .inl T.gE_BrimfulError⟩ takes0 (fun W pn xe tk _ => (pss_one (ps_if (pt_cmpR op_notN1 (pe_callS (sp := sp_judge T.E_BadStep T.E_TooLong T.C_Program K) (E := WE W) (ok_judge T) hr (by rfl) T.g_judge T.F_judge.kp T.b_judge (fun σ => passAt tk σ) (pa_cons (pv 0) (pa_cons (pv 1) pa_nil))) pe_non (nomark _))
      (pss_one (ps_ret pe_str))
      pss_nil)))
      (fun a oe cls d pn hz hf => (pss_one (ps_ret (pe_callE (E := E0) (k := 1) List.mem_cons_self hz hf (ok_law_kind T) ⟨(hr.mono (j := 1) (by decide)).dp, (hr.mono (j := 1) (by decide)).un⟩ (by rfl) T.g_law_kind T.F_law_kind.kp T.b_law_kind (pa_cons (pv 2) pa_nil))))))
      (pss_one (ps_ret pe_str))), ?_⟩
    walk_at "start"
    walk_at "x"
    refine x_callS ?_
    walk_at "x"
    refine ⟨p, L, as, ss, m, c, i, tv, rfl, hP, ok, hO, fun h H1 s1 => ?_, fun h1 h2 h4 h3 H1 s1 => ?_, fun t ht htc h1 h2 h3 v H1 s1 hv => ?_⟩
    · refine ⟨true, kdc_brim T true, (fun _ e he => ?_), (fun z => nomatch z)⟩
      walk_at "x"
      refine x_callE ?_
      walk_at "x"
      intro oe hz hf
      refine ⟨true, rfl, hz, hf, kdc_exc T true, fun H2 s2 => ?_⟩
      exact hB h H2 (s1.trans s2)
    · refine ⟨true, kdc_brim T false, (fun _ e he => ?_), (fun z => nomatch z)⟩
      walk_at "x"
      refine x_callE ?_
      walk_at "x"
      intro oe hz hf
      refine ⟨false, rfl, hz, hf, kdc_exc T false, fun H2 s2 => ?_⟩
      exact hL (by rw [h4]; exact Bool.noConfusion) h1 h2 h3 H2 (s1.trans s2)
    · have hb : isB tv (c : Int) = true := by
        subst ht
        show (decide ((0 : Int) ≤ (t : Int)) && decide ((t : Int) < (c : Int))) = true
        rw [decide_eq_true (show (0 : Int) ≤ (t : Int) by omega), decide_eq_true (show (t : Int) < (c : Int) by omega)]
        rfl
      have q := hN (by rw [hb]; exact Bool.noConfusion) h1 h2 h3
      rw [hA t htc h1 h2] at hv
      cases hv
      walk_at "x"
      rw [decide_eq_true (show V.non = V.non from rfl)]
      walk_at "f"
      walk_at "x"
      exact q H1 s1

/-- no divisor from lo on, 2^k of them -/
def chk (n : Nat) : Nat → Nat → Bool
  | 0, lo => decide (n % lo ≠ 0)
  | k + 1, lo => chk n k lo && chk n k (lo + 2 ^ k)
theorem chk_ok {n : Nat} : ∀ k lo, chk n k lo = true → ∀ d, lo ≤ d → d < lo + 2 ^ k → n % d ≠ 0
  | 0, lo, h, d, h1, h2 => by
    have : d = lo := by rw [Nat.pow_zero] at h2; omega
    subst this
    exact of_decide_eq_true h
  | k + 1, lo, h, d, h1, h2 => by
    have h : (chk n k lo && chk n k (lo + 2 ^ k)) = true := h
    rw [Bool.and_eq_true] at h
    by_cases hd : d < lo + 2 ^ k
    · exact chk_ok k lo h.1 d h1 hd
    · exact chk_ok k (lo + 2 ^ k) h.2 d (by omega) (by rw [Nat.pow_succ] at h2; omega)
theorem chk_big : chk 999999937 15 2 = true := by decide +kernel
theorem prime_big : PrimeI 999999937 := ⟨by decide, fun d h2 hd z => by
  have h3 : d < 32768 := by
    by_cases h : d < 32768
    · exact h
    · have : (32768 : Int) * 32768 ≤ d * d := Int.mul_le_mul (by omega) (by omega) (by decide) (by omega)
      omega
  obtain ⟨k, rfl⟩ : ∃ k : Nat, d = (k : Int) := ⟨d.toNat, by omega⟩
  have h := chk_ok (n := 999999937) 15 2 chk_big k (by omega) (by show k < 2 + 32768; omega)
  have z : ((999999937 % k : Nat) : Int) = 0 := by rw [Int.natCast_emod]; exact z
  exact h (by omega)⟩
/-- one of the moduli -/
def MdS (m : Nat) : Prop := 2 ≤ m ∧ m ≤ 999999937 ∧ (m < 1440000 ∨ PrimeI (m : Int))

def SizeAt (d n : Addr) (v : V) (H' : Hp) : Prop := ∃ (l : Addr) (m mn st : Nat), v = .ref l ∧ H' l = some (.lst [.int (m : Int), .int (mn : Int), .int ((m ^ mn : Nat) : Int), .int (st : Int)]) ∧ l ≠ d ∧ l ≠ n ∧ MdS m ∧ 1 ≤ mn ∧ mn ≤ 12 ∧ st ≤ 20000
def sp_law_size (K : PySem.W.Frag) : Sp := fun vs H Q _ => ∃ (d n : Addr), vs = [.ref d] ∧ Dr H d n ∧ ∀ v H', SizeAt d n v H' → Dr H' d n → Keep d H H' → Q v H'
theorem ok_law_size (T : Txt K mg) : FnOk P w K mg base CX0 3 T.a_law_size T.fd_law_size ["draws"] (sp_law_size K) := by
  refine T.F_law_size.ok sc_law_size (fun vs H Q E h => ?_) (fun cdv A outer s H vs Q E hr h => ?_)
  · obtain ⟨d, n, rfl, _⟩ := h
    rfl
  · obtain ⟨d, n, rfl, hD, q⟩ := h
    refine ⟨_, (pss_cons (ps_set (i := 1) sc_law_size.nd rfl (.inl rfl) (pe_ix (r := rIxL K) ix_list (pe_lst (pa_cons pe_int (pa_cons pe_int (pa_cons pe_int (pa_cons pe_int (pa_cons pe_int (pa_cons pe_int (pa_cons pe_int (pa_cons pe_int (pa_cons pe_int pa_nil)))))))))) (pe_op op_mod (pe_call (ok_law_draw T) hr (by rfl) T.g_law_draw T.F_law_draw.kp T.b_law_draw .nil pass0 (pa_cons (pv 0) pa_nil)) pe_int) (fun _ _ => rfl)))
      (pss_cons (ps_set (i := 2) sc_law_size.nd rfl (.inl rfl) (pe_op op_add pe_int (pe_op op_mod (pe_call (ok_law_draw T) hr (by rfl) T.g_law_draw T.F_law_draw.kp T.b_law_draw .nil pass0 (pa_cons (pv 0) pa_nil)) pe_int)))
      (pss_cons (ps_if (pt_cmpR op_gt (pv 1) pe_int (nomark _))
      (pss_one (ps_set (i := 2) sc_law_size.nd rfl (.inl rfl) (pe_op op_add pe_int (pe_op op_mod (pe_call (ok_law_draw T) hr (by rfl) T.g_law_draw T.F_law_draw.kp T.b_law_draw .nil pass0 (pa_cons (pv 0) pa_nil)) pe_int))))
      pss_nil)
      (pss_cons (ps_set (i := 3) sc_law_size.nd rfl (.inl rfl) pe_int)
      (pss_cons (ps_for PassesOwn.never rfl (pi_range1 (by rfl) T.m_range (pa_cons (pv 2) pa_nil)) (pg_name (i := 4) sc_law_size.nd rfl (Or.inl rfl))
      (pss_one (ps_set (i := 3) sc_law_size.nd rfl (.inl rfl) (pe_op op_mul (pv 3) (pv 1)))))
      (pss_cons (ps_set (i := 5) sc_law_size.nd rfl (.inl rfl) (pe_op op_mod (pe_call (ok_law_draw T) hr (by rfl) T.g_law_draw T.F_law_draw.kp T.b_law_draw .nil pass0 (pa_cons (pv 0) pa_nil)) pe_int))
      (pss_cons (ps_if (pt_cmpR op_gt (pv 3) pe_int (nomark _))
      (pss_cons (ps_set (i := 5) sc_law_size.nd rfl (.inl rfl) (pe_callB (id := "min") (r := rMin2) (cr_min2 rfl) (by rfl) T.m_min (by decide +kernel) (pa_cons (pe_op op_add (pv 5) (pe_op op_fdivW pe_int (pv 3))) (pa_cons pe_int pa_nil))))
      (pss_one (ps_if (pt_cmpR op_gt (pe_op op_mod (pe_call (ok_law_draw T) hr (by rfl) T.g_law_draw T.F_law_draw.kp T.b_law_draw .nil pass0 (pa_cons (pv 0) pa_nil)) pe_int) pe_int (nomark _))
      (pss_one (ps_set (i := 5) sc_law_size.nd rfl (.inl rfl) (pe_callB (id := "min") (r := rMin2) (cr_min2 rfl) (by rfl) T.m_min (by decide +kernel) (pa_cons (pe_callB (id := "max") (r := rMax2) (cr_max2 rfl) (by rfl) T.m_max (by decide +kernel) (pa_cons pe_int (pa_cons (pe_op op_sub (pe_op op_fdivW pe_int (pv 3)) (pe_op op_mod (pe_call (ok_law_draw T) hr (by rfl) T.g_law_draw T.F_law_draw.kp T.b_law_draw .nil pass0 (pa_cons (pv 0) pa_nil)) pe_int)) pa_nil))) (pa_cons pe_int pa_nil)))))
      pss_nil)))
      pss_nil)
      (pss_one (ps_ret (pe_lst (pa_cons (pv 1) (pa_cons (pv 2) (pa_cons (pv 3) (pa_cons (pv 5) pa_nil)))))))))))))), ?_⟩
    walk_at "start"
    walk_at "x"
    refine ⟨by show 9 ≤ sizeLine; decide, fun u hu => ?_⟩
    have s1 := same_upd (o := .lst [V.int 2, .int 3, .int 5, .int 4, .int 6, .int 9, .int 97, .int 1000003, .int 999999937]) hu
    have e1 : (upd H u (.lst [V.int 2, .int 3, .int 5, .int 4, .int 6, .int 9, .int 97, .int 1000003, .int 999999937])) u = _ := upd_same
    have hud := hD.new hu
    have hD1 := hD.same s1
    generalize upd H u (.lst [V.int 2, .int 3, .int 5, .int 4, .int 6, .int 9, .int 97, .int 1000003, .int 999999937]) = H1 at s1 e1 hD1
    walk_at "x"
    refine ⟨d, n, rfl, hD1, ?_⟩
    rintro _ H2 ⟨y, rfl, y0, y1⟩ hD2 k2
    walk_at "x"
    obtain ⟨b, hv, hm⟩ := at_lt (xs := [V.int 2, .int 3, .int 5, .int 4, .int 6, .int 9, .int 97, .int 1000003, .int 999999937]) (i := y % 9) (Int.emod_nonneg _ (by decide)) (Int.emod_lt_of_pos y (show (0 : Int) < 9 by decide))
    refine x_ixL (sq_of (k2 _ _ e1 hud)) hv ?_
    have hb : ∃ m : Nat, b = .int (m : Int) ∧ MdS m := by
      have hm : b = V.int 2 ∨ b = V.int 3 ∨ b = V.int 5 ∨ b = V.int 4 ∨ b = V.int 6 ∨ b = V.int 9 ∨ b = V.int 97 ∨ b = V.int 1000003 ∨ b = V.int 999999937 := by simpa using hm
      rcases hm with rfl | rfl | rfl | rfl | rfl | rfl | rfl | rfl | rfl
      · exact ⟨2, rfl, by decide, by decide, .inl (by decide)⟩
      · exact ⟨3, rfl, by decide, by decide, .inl (by decide)⟩
      · exact ⟨5, rfl, by decide, by decide, .inl (by decide)⟩
      · exact ⟨4, rfl, by decide, by decide, .inl (by decide)⟩
      · exact ⟨6, rfl, by decide, by decide, .inl (by decide)⟩
      · exact ⟨9, rfl, by decide, by decide, .inl (by decide)⟩
      · exact ⟨97, rfl, by decide, by decide, .inl (by decide)⟩
      · exact ⟨1000003, rfl, by decide, by decide, .inl (by decide)⟩
      · exact ⟨999999937, rfl, by decide, by decide, .inr prime_big⟩
    obtain ⟨m, rfl, hM⟩ := hb
    have k2 : Keep d H H2 := (Same.keep s1).trans k2
    have m2 : 2 ≤ m := hM.1
    have m9 : m ≤ 999999937 := hM.2.1
    clear hv hm
    walk_at "x"
    refine ⟨d, n, rfl, hD2, ?_⟩
    rintro _ Hc ⟨w, rfl, w0, w1⟩ hDc kc
    have kc := k2.trans kc
    walk_at "x"
    refine x_ite (fun hc => ?_) (fun hc => ?_)
    · walk_at "x"
      refine ⟨d, n, rfl, hDc, ?_⟩
      rintro _ Hc ⟨w, rfl, w0, w1⟩ hDc kc2
      have kc := kc.trans kc2
      walk_at "x"
      obtain ⟨mn, hmn, hm1, hm2⟩ : ∃ mn : Nat, (mn : Int) = 1 + w % 3 ∧ 1 ≤ mn ∧ mn ≤ 12 := ⟨(1 + w % 3).toNat, by omega, by omega, by omega⟩
      rw [← hmn]
      walk_at "x"
      have hpos : ∀ k : Nat, 1 ≤ m ^ k := fun k => Nat.one_le_pow _ _ (by omega)
      have fin : ∀ (sv : Int) (Hx : Hp), 0 ≤ sv → sv ≤ 20000 → Dr Hx d n → Keep d H Hx → ∀ l, Hx l = none → Q (.ref l) (upd Hx l (.lst [.int (m : Int), .int (mn : Int), .int ((m ^ mn : Nat) : Int), .int sv])) := fun sv Hx v0 v1 hDx kx l hl => q _ _ ⟨l, m, mn, sv.toNat, rfl, by rw [upd_same, Int.toNat_of_nonneg v0], hDx.new hl, hDx.newN hl, hM, hm1, hm2, by omega⟩ (hDx.upd0 hl) (kx.put (kx.free hDx hl))
      refine x_forR1 (mn : Int) (fun k σ' H' => H' = Hc ∧ ∃ v4 v5, σ' = [some (V.ref d), some (.int (m : Int)), some (.int (mn : Int)), some (.int ((m ^ k : Nat) : Int)), v4, v5]) (fun R r => ⟨_, rfl, r⟩) (by omega) (by omega) ⟨rfl, _, _, rfl⟩ ?_ ?_
      · rintro k σ' H' hk ⟨rfl, v4, v5, rfl⟩
        walk_at "x"
        exact ⟨rfl, _, _, by rw [Nat.pow_succ, Int.natCast_mul (m ^ k)]⟩
      rintro σ' H' ⟨rfl, v4, v5, rfl⟩
      rw [Int.toNat_natCast]
      have hp := hpos mn
      have hw : m ^ mn < 2 ^ 361 := Nat.lt_of_le_of_lt (Nat.pow_le_pow_left (show m ≤ 2 ^ 30 by omega) mn) (by rw [← Nat.pow_mul]; exact Nat.pow_lt_pow_right (by decide) (by omega))
      generalize m ^ mn = tot at fin hp hw
      have htp : (400000 : Int) / (tot : Int) ≤ 400000 := Int.ediv_le_self _ (by decide)
      have hcd : CDivW 400000 (tot : Int) := wide_div (b := 361) (by omega) (by rw [Int.natAbs_natCast]; exact hw) (by decide) (by decide)
      have ht0 : 0 ≤ (400000 : Int) / (tot : Int) := Int.ediv_nonneg (by decide) (by omega)
      walk_at "x"
      refine ⟨d, n, rfl, hDc, ?_⟩
      rintro _ H5 ⟨x, rfl, x0, x1⟩ hD5 k5
      have k5 := kc.trans k5
      walk_at "x"
      refine x_ite (fun hc => ?_) (fun hc => ?_)
      · walk_at "x"
        refine ⟨_, _, rfl, rfl, hcd, ?_⟩
        walk_at "x"
        refine ⟨d, n, rfl, hD5, ?_⟩
        rintro _ H6 ⟨y, rfl, y0, y1⟩ hD6 k6
        have k6 := k5.trans k6
        walk_at "x"
        refine x_ite (fun hc => ?_) (fun hc => ?_)
        · walk_at "x"
          refine ⟨_, _, rfl, rfl, hcd, ?_⟩
          walk_at "x"
          refine ⟨d, n, rfl, hD6, ?_⟩
          rintro _ H7 ⟨z, rfl, z0, z1⟩ hD7 k7
          have k7 := k6.trans k7
          walk_at "x"
          refine ⟨by show 4 ≤ sizeLine; decide, fin _ _ ?_ ?_ hD7 k7⟩
          · split <;> split <;> omega
          · split <;> split <;> omega
        · walk_at "x"
          refine ⟨by show 4 ≤ sizeLine; decide, fin _ _ ?_ ?_ hD6 k6⟩
          · split <;> omega
          · split <;> omega
      · walk_at "x"
        exact ⟨by show 4 ≤ sizeLine; decide, fin _ _ (by omega) (by omega) hD5 k5⟩
    · obtain ⟨mn, hmn, hm1, hm2⟩ : ∃ mn : Nat, (mn : Int) = 1 + w % 12 ∧ 1 ≤ mn ∧ mn ≤ 12 := ⟨(1 + w % 12).toNat, by omega, by omega, by omega⟩
      rw [← hmn]
      walk_at "x"
      have hpos : ∀ k : Nat, 1 ≤ m ^ k := fun k => Nat.one_le_pow _ _ (by omega)
      have fin : ∀ (sv : Int) (Hx : Hp), 0 ≤ sv → sv ≤ 20000 → Dr Hx d n → Keep d H Hx → ∀ l, Hx l = none → Q (.ref l) (upd Hx l (.lst [.int (m : Int), .int (mn : Int), .int ((m ^ mn : Nat) : Int), .int sv])) := fun sv Hx v0 v1 hDx kx l hl => q _ _ ⟨l, m, mn, sv.toNat, rfl, by rw [upd_same, Int.toNat_of_nonneg v0], hDx.new hl, hDx.newN hl, hM, hm1, hm2, by omega⟩ (hDx.upd0 hl) (kx.put (kx.free hDx hl))
      refine x_forR1 (mn : Int) (fun k σ' H' => H' = Hc ∧ ∃ v4 v5, σ' = [some (V.ref d), some (.int (m : Int)), some (.int (mn : Int)), some (.int ((m ^ k : Nat) : Int)), v4, v5]) (fun R r => ⟨_, rfl, r⟩) (by omega) (by omega) ⟨rfl, _, _, rfl⟩ ?_ ?_
      · rintro k σ' H' hk ⟨rfl, v4, v5, rfl⟩
        walk_at "x"
        exact ⟨rfl, _, _, by rw [Nat.pow_succ, Int.natCast_mul (m ^ k)]⟩
      rintro σ' H' ⟨rfl, v4, v5, rfl⟩
      rw [Int.toNat_natCast]
      have hp := hpos mn
      have hw : m ^ mn < 2 ^ 361 := Nat.lt_of_le_of_lt (Nat.pow_le_pow_left (show m ≤ 2 ^ 30 by omega) mn) (by rw [← Nat.pow_mul]; exact Nat.pow_lt_pow_right (by decide) (by omega))
      generalize m ^ mn = tot at fin hp hw
      have htp : (400000 : Int) / (tot : Int) ≤ 400000 := Int.ediv_le_self _ (by decide)
      have hcd : CDivW 400000 (tot : Int) := wide_div (b := 361) (by omega) (by rw [Int.natAbs_natCast]; exact hw) (by decide) (by decide)
      have ht0 : 0 ≤ (400000 : Int) / (tot : Int) := Int.ediv_nonneg (by decide) (by omega)
      walk_at "x"
      refine ⟨d, n, rfl, hDc, ?_⟩
      rintro _ H5 ⟨x, rfl, x0, x1⟩ hD5 k5
      have k5 := kc.trans k5
      walk_at "x"
      refine x_ite (fun hc => ?_) (fun hc => ?_)
      · walk_at "x"
        refine ⟨_, _, rfl, rfl, hcd, ?_⟩
        walk_at "x"
        refine ⟨d, n, rfl, hD5, ?_⟩
        rintro _ H6 ⟨y, rfl, y0, y1⟩ hD6 k6
        have k6 := k5.trans k6
        walk_at "x"
        refine x_ite (fun hc => ?_) (fun hc => ?_)
        · walk_at "x"
          refine ⟨_, _, rfl, rfl, hcd, ?_⟩
          walk_at "x"
          refine ⟨d, n, rfl, hD6, ?_⟩
          rintro _ H7 ⟨z, rfl, z0, z1⟩ hD7 k7
          have k7 := k6.trans k7
          walk_at "x"
          refine ⟨by show 4 ≤ sizeLine; decide, fin _ _ ?_ ?_ hD7 k7⟩
          · split <;> split <;> omega
          · split <;> split <;> omega
        · walk_at "x"
          refine ⟨by show 4 ≤ sizeLine; decide, fin _ _ ?_ ?_ hD6 k6⟩
          · split <;> omega
          · split <;> omega
      · walk_at "x"
        exact ⟨by show 4 ≤ sizeLine; decide, fin _ _ (by omega) (by omega) hD5 k5⟩

section
variable {σ : L2.St} {H : Hp} {Q : VK}
theorem x_make1 {C : Addr} {sp : Sp} {dvs : List V} {E : XK} {t : TA} (h : t σ H fun vs H1 => ∀ x dx, H1 x = none → H1 dx = none → dx ≠ x → sp (.ref x :: (vs ++ dvs)) (upd (upd H1 dx (.own x)) x (.ins C dx [])) (fun v H2 => v = .non ∧ Q (.ref x) H2) E) : tMake C sp dvs E t σ H Q := h
end
theorem new_prog {C : Addr} {H1 : Hp} {L0 : Addr} {as : List Addr} {ss : List Stp} {m c i : Nat} {Q : VK} {E : XK} (hC : PC K C) (hl : H1 L0 = some (.lst (as.map V.ref))) (hst : StpsAt H1 as ss) (ok : PrOk ss m c i)
    (q : ∀ p L' H', H1 L' = none → Same H1 H' → PrAt K C H' p L' as ss m c i → Q (.ref p) H') : ∀ x dx, H1 x = none → H1 dx = none → dx ≠ x → sp_Program___init K [.ref x, .int (m : Int), .int (c : Int), .int (i : Int), .ref L0] (upd (upd H1 dx (.own x)) x (.ins C dx [])) (fun v H2 => v = .non ∧ Q (.ref x) H2) E := by
  intro x dx hx hdx hne
  have s1 : ∀ b o, H1 b = some o → (upd (upd H1 dx (.own x)) x (.ins C dx [])) b = some o := fun b o e => by
    rw [upd_ne (ne_of_none e hx), upd_ne (ne_of_none e hdx)]
    exact e
  refine ⟨x, C, dx, L0, as, ss, m, c, i, rfl, upd_same, hC, s1 _ _ hl, hst.tups (fun b xs e => s1 _ _ e), ok, fun L' H' hL' keep hP => ⟨rfl, ?_⟩⟩
  have s2 : Same H1 H' := fun b o e => keep b o (s1 _ _ e) (ne_of_none e hx)
  refine q x L' H' ?_ s2 hP
  cases e : H1 L' with
  | none => rfl
  | some o =>
    rw [s1 _ _ e] at hL'
    cases hL'
theorem new_progA {C : Addr} {H1 : Hp} {L0 : Addr} {as : List Addr} {ss : List Stp} {m c i : Nat} {R : Addr → Hp → Prop} {E : XK} (hC : PC K C) (hl : H1 L0 = some (.lst (as.map V.ref))) (hst : StpsAt H1 as ss) (ok : PrOk ss m c i)
    (q : ∀ p L' H', H1 L' = none → Same H1 H' → PrAt K C H' p L' as ss m c i → R p H') : ∀ x dx, H1 x = none → H1 dx = none → dx ≠ x → sp_Program___init K [.ref x, .int (m : Int), .int (c : Int), .int (i : Int), .ref L0] (upd (upd H1 dx (.own x)) x (.ins C dx [])) (fun v H2 => v = .non ∧ R x H2) E :=
  new_prog (Q := fun v H => match v with | .ref a => R a H | _ => False) hC hl hst ok q
/-- one value, whichever way it is come by -/
theorem x_asgJ {te : TE} {g : TG} {D : Ends} {σ : L2.St} {H : Hp} (J : Bool → Hp → Prop) (h1 : ∀ Q : VK, (∀ b H', J b H' → Q (.bl b) H') → te σ H Q) (h2 : ∀ b H', J b H' → g (.bl b) σ H' fun σ2 H2 => D.nx σ2 H2) : tAsg te g D σ H := h1 _ h2
/-- one place behind a statement, whichever way it is come by -/
theorem x_seqJ {s1 s2 : TS} {D : Ends} {σ : L2.St} {H : Hp} (J : L2.St → Hp → Prop) (h1 : ∀ N : L2.St → Hp → Prop, (∀ σ' H', J σ' H' → N σ' H') → s1 { D with nx := N } σ H) (h2 : ∀ σ' H', J σ' H' → s2 D σ' H') : tSeq s1 s2 D σ H := h1 _ h2
/-- the steps that add nothing -/
def addsL (c k : Nat) : List Stp := (List.range k).map fun j => Stp.add (j % c) 0 []
theorem addsL_len {c k : Nat} : (addsL c k).length = k := by unfold addsL; rw [List.length_map, List.length_range]
theorem addsL_snoc {c k : Nat} : addsL c (k + 1) = addsL c k ++ [Stp.add (k % c) 0 []] := by unfold addsL; rw [List.range_succ, List.map_append]; rfl
theorem addsL_mem {c k : Nat} {s : Stp} (h : s ∈ addsL c k) : ∃ t, s = .add (t % c) 0 [] := by
  obtain ⟨j, _, rfl⟩ := List.mem_map.mp h
  exact ⟨j, rfl⟩
theorem addsL_ok {m c i k : Nat} (hc : 1 ≤ c) (hm : 1 ≤ m) : ∀ s ∈ addsL c k, StpOk m c i s := fun s h => by
  obtain ⟨t, rfl⟩ := addsL_mem h
  exact ⟨Nat.mod_lt _ hc, Int.le_refl _, by omega, Nat.zero_le _, fun f hf => by simp at hf⟩
theorem adds_run {m n : Nat} {iv : List Int} : ∀ {ss : List Stp} {mv : List Int}, (∀ s ∈ ss, ∃ t, s = Stp.add t 0 []) → Mem m n mv → runF m iv ss mv = mv
  | [], _, _, _ => rfl
  | s :: ss, mv, h, hm => by
    obtain ⟨t, rfl⟩ := h s List.mem_cons_self
    have e : stepF m iv mv (.add t 0 []) = mv := by
      show mv.set t ((mv.getD t 0 + 0 * prodV mv iv []) % m) = mv
      rw [Int.zero_mul, Int.add_zero]
      by_cases ht : t < mv.length
      · have g : mv.getD t 0 = mv[t] := by rw [List.getD_eq_getElem?_getD, List.getElem?_eq_getElem ht]; rfl
        have r := hm.rg _ (List.getElem_mem ht)
        rw [g, Int.emod_eq_of_lt r.1 r.2]
        exact List.set_getElem_self ht
      · exact List.set_eq_of_length_le (by omega)
    show runF m iv ss (stepF m iv mv (.add t 0 [])) = mv
    rw [e]
    exact adds_run (fun x hx => h x (List.mem_cons_of_mem _ hx)) hm
theorem adds_clean {m c i t : Nat} {ss : List Stp} (hm : 0 < m) (h : ∀ s ∈ ss, ∃ t, s = Stp.add t 0 []) : verdF m c i ss t = .no :=
  (verd_clean hm).mpr ⟨fun _ => 0, fun mv iv hv _ => by
    rw [adds_run h hv]
    exact ⟨fun _ _ _ => rfl, ⟨0, by show mv.getD t 0 - mv.getD t 0 - (0 : Int) = _; omega⟩⟩⟩
theorem StpsAt.set {H : Hp} {as : List Addr} {ss : List Stp} {b : Addr} {x : Stp} {k : Nat} (h : StpsAt H as ss) (hx : StpAt H b x) : StpsAt H (as.set k b) (ss.set k x) := by
  refine ⟨by rw [List.length_set, List.length_set]; exact h.1, fun i y d e1 e2 => ?_⟩
  by_cases q : k = i
  · subst q
    have h1 := (List.getElem?_eq_some_iff.mp e1).1
    have h2 := (List.getElem?_eq_some_iff.mp e2).1
    rw [List.length_set] at h1 h2
    rw [List.getElem?_set_self h1] at e1
    rw [List.getElem?_set_self h2] at e2
    cases e1
    cases e2
    exact hx
  · rw [List.getElem?_set_ne q] at e1 e2
    exact h.2 i y d e1 e2
/-- the step that looks up a table -/
abbrev tabS : Stp := .tab 0 1 [[0]] 1 2
theorem tabS_ok {m c i : Nat} (hc : 2 < c) (hp : IsPrime m) : StpOk m c i tabS :=
  ⟨by omega, by omega, hc, by decide, by decide, by decide, .inl rfl, ⟨by decide, by show 1 ≤ m; have := hp.1; omega, fun k r e => by
    cases k with
    | zero =>
      cases e
      exact ⟨rfl, fun x hx => by rw [List.mem_singleton.mp hx]; exact ⟨Int.le_refl _, by have := hp.1; omega⟩⟩
    | succ k => simp at e⟩, by decide, hp⟩
theorem keep_tups46 {H H' : Hp} {d n : Addr} (k : Keep d H H') (h : Dr H d n) : Tups H H' := by
  obtain ⟨_, _, h1, _⟩ := h
  exact Tups.keep k h1
theorem PrAt.keep46 {K : PySem.W.Frag} {C : Addr} {H H' : Hp} {d n p L : Addr} {as : List Addr} {ss : List Stp} {m c i : Nat} (h : PrAt K C H p L as ss m c i) (hL : L ≠ d) (hD : Dr H d n) (k : Keep d H H') : PrAt K C H' p L as ss m c i := by
  obtain ⟨dx, h1, h2⟩ := h.ob
  refine ⟨⟨dx, ?_, h2⟩, k _ _ h.lst hL, h.st.tups (keep_tups46 k hD)⟩
  obtain ⟨_, _, h3, _⟩ := hD
  exact k _ _ h1 (ne_of h1 h3 (by intro z; cases z))

def sp_law (K : PySem.W.Frag) : Sp := fun vs H Q _ => ∃ (a : Addr) (ns : List Int), vs = [.ref a] ∧ SqL K H a (ns.map V.int) ∧ ns.length ≤ 63 ∧ ∀ H', Q (.bl true) H'
theorem ok_law (T : Txt K mg) : FnOk P w K mg base CX0 9 T.a_law T.fd_law ["script"] (sp_law K) := by
  refine T.F_law.ok sc_law (fun vs H Q E h => ?_) (fun cdv A outer s H vs Q E hr h => ?_)
  · obtain ⟨a, ns, rfl, _⟩ := h
    rfl
  · obtain ⟨a, ns, rfl, hS, hl, q⟩ := h
    have hC : PC K T.C_Program := ⟨T.cl_Program, T.na_Program_modulus, T.na_Program_cells, T.na_Program_inputs, T.na_Program_steps⟩
    refine ⟨_, (pss_cons (ps_set (i := 1) sc_law.nd rfl (.inl rfl) (pe_lst (pa_cons (pe_call (ok_law_numbers T) (hr.mono (by decide)) (by rfl) T.g_law_numbers T.F_law_numbers.kp T.b_law_numbers .nil pass0 (pa_cons (pv 0) pa_nil)) (pa_cons pe_int pa_nil))))
      (pss_cons (ps_set (i := 2) sc_law.nd rfl (.inl rfl) (pe_call (ok_law_size T) (hr.mono (by decide)) (by rfl) T.g_law_size T.F_law_size.kp T.b_law_size .nil pass0 (pa_cons (pv 1) pa_nil)))
      (pss_cons (ps_set (i := 3) sc_law.nd rfl (.inl rfl) (pe_ix (r := rIxL K) ix_list (pv 2) pe_int (fun _ _ => rfl)))
      (pss_cons (ps_set (i := 4) sc_law.nd rfl (.inr rfl) (pe_op op_add pe_int (pe_op op_mod (pe_call (ok_law_draw T) (hr.mono (by decide)) (by rfl) T.g_law_draw T.F_law_draw.kp T.b_law_draw .nil pass0 (pa_cons (pv 1) pa_nil)) (pe_ix (r := rIxL K) ix_list (pv 2) pe_int (fun _ _ => rfl)))))
      (pss_cons (ps_set (i := 5) sc_law.nd rfl (.inl rfl) (pe_cmpR op_gt (pe_op op_mul (pe_ix (r := rIxL K) ix_list (pv 2) pe_int (fun _ _ => rfl)) (pe_op op_add (pe_ix (r := rIxL K) ix_list (pv 2) pe_int (fun _ _ => rfl)) pe_int)) pe_int (nomark _)))
      (pss_cons (ps_set (i := 6) sc_law.nd rfl (.inl rfl) (pe_call (ok_law_is_prime T) (hr.mono (by decide)) (by rfl) T.g_law_is_prime T.F_law_is_prime.kp T.b_law_is_prime .nil pass0 (pa_cons (pv 3) pa_nil)))
      (pss_cons (ps_if (PW.pt (pw_and (pt_not (pt_val (pv 5))) (pw_and (pt_cmpR op_gt (pe_op op_mul (pe_ix (r := rIxL K) ix_list (pv 2) pe_int (fun _ _ => rfl)) (pe_ix (r := rIxL K) ix_list (pv 2) pe_int (fun _ _ => rfl))) pe_int (nomark _)) (pw_and1 (pt_cmpR op_gt (pe_op op_mod (pe_call (ok_law_draw T) (hr.mono (by decide)) (by rfl) T.g_law_draw T.F_law_draw.kp T.b_law_draw .nil pass0 (pa_cons (pv 1) pa_nil)) pe_int) pe_int (nomark _))))))
      (pss_one (ps_ret pe_bl))
      pss_nil)
      (pss_cons (ps_setLc (i := 7) (own := [("k", 12)]) (g := gName 12) (tt := tYes) rfl sc_law.nd rfl rfl (sw_true rfl rfl rfl (by decide +kernel)) (pi_range1 (by rfl) T.m_range (pa_cons (pe_ix (r := rIxL K) ix_list (pv 2) pe_int (fun _ _ => rfl)) pa_nil)) (blkOk_by (N := N_law) (sc := defScope s_law) (by decide +kernel)) (fun _ _ _ _ _ => (pg_name (i := 12) sc_law.nd rfl (Or.inl rfl))) (fun _ _ _ _ _ => pts_nil) (fun _ _ _ _ _ => (pe_tup (pa_cons pe_str (pa_cons (pe_op op_mod (pv 12) (pv 4)) (pa_cons pe_int (pa_cons (pe_tup pa_nil) pa_nil)))))))
      (pss_cons (ps_set (i := 8) sc_law.nd rfl (.inl rfl) (pe_and (pv 6) (pe_and (pe_cmpR op_gt (pv 4) pe_int (nomark _)) (pe_and (pe_cmpR op_gt (pe_callB (id := "len") (r := rLen K) cr_len (by rfl) T.m_len PySem.boot_len (pa_cons (pv 7) pa_nil)) pe_int (nomark _)) (pe_one (pe_cmpR op_eq (pe_op op_mod (pe_call (ok_law_draw T) (hr.mono (by decide)) (by rfl) T.g_law_draw T.F_law_draw.kp T.b_law_draw .nil pass0 (pa_cons (pv 1) pa_nil)) pe_int) pe_int (nomark _)))))))
      (pss_cons (ps_if (pt_val (pv 8))
      (pss_one (ps_asg (pe_tup (pa_cons pe_str (pa_cons pe_int (pa_cons pe_int (pa_cons (pe_tup (pa_cons (pe_tup (pa_cons pe_int pa_nil)) pa_nil)) (pa_cons pe_int (pa_cons pe_int pa_nil))))))) (pg_sub (pv 7) (pe_op op_mod (pe_call (ok_law_draw T) (hr.mono (by decide)) (by rfl) T.g_law_draw T.F_law_draw.kp T.b_law_draw .nil pass0 (pa_cons (pv 1) pa_nil)) (pe_callB (id := "len") (r := rLen K) cr_len (by rfl) T.m_len PySem.boot_len (pa_cons (pv 7) pa_nil))) set_list)))
      pss_nil)
      (pss_cons (ps_set (i := 9) sc_law.nd rfl (.inl rfl) (pe_make T.mk_Program (ok_Program___init T) (hr.mono (by decide)) (by rfl) T.gc_Program T.b_Program___init .nil pass0 (pa_cons (pv 3) (pa_cons (pv 4) (pa_cons (pe_op op_sub (pe_ix (r := rIxL K) ix_list (pv 2) pe_int (fun _ _ => rfl)) (pv 4)) (pa_cons (pv 7) pa_nil))))))
      (pss_cons (ps_set (i := 10) sc_law.nd rfl (.inl rfl) pe_str)
      (pss_cons (ps_if (PW.pt (pw_or (pt_not (pt_val (pv 6))) (pw_or1 (pt_val (pv 8)))))
      (pss_one (ps_set (i := 10) sc_law.nd rfl (.inl rfl) pe_str))
      (pss_one (ps_if (pt_val (pv 5))
      (pss_one (ps_set (i := 10) sc_law.nd rfl (.inl rfl) pe_str))
      pss_nil)))
      (pss_cons (ps_if (pt_cmpR op_ne (pe_call (ok_law_expanded T) hr (by rfl) T.g_law_expanded T.F_law_expanded.kp T.b_law_expanded .nil pass0 (pa_cons (pv 9) pa_nil)) (pv 10) (nomark _))
      (pss_one (ps_ret pe_bl))
      pss_nil)
      (pss_cons (ps_set (i := 11) sc_law.nd rfl (.inl rfl) (pe_op op_mod (pe_call (ok_law_draw T) (hr.mono (by decide)) (by rfl) T.g_law_draw T.F_law_draw.kp T.b_law_draw .nil pass0 (pa_cons (pv 1) pa_nil)) (pv 4)))
      (pss_cons (ps_if (pt_cmpR op_eq (pe_op op_mod (pe_call (ok_law_draw T) (hr.mono (by decide)) (by rfl) T.g_law_draw T.F_law_draw.kp T.b_law_draw .nil pass0 (pa_cons (pv 1) pa_nil)) pe_int) pe_int (nomark _))
      (pss_cons (ps_set (i := 11) sc_law.nd rfl (.inl rfl) (pe_ix (r := rIxL K) ix_list (pe_lst (pa_cons (pv 4) (pa_cons (pe_un un_neg pe_int) (pa_cons pe_bl (pa_cons pe_non (pa_cons pe_str pa_nil)))))) (pe_op op_mod (pe_call (ok_law_draw T) (hr.mono (by decide)) (by rfl) T.g_law_draw T.F_law_draw.kp T.b_law_draw .nil pass0 (pa_cons (pv 1) pa_nil)) pe_int) (fun _ _ => rfl)))
      (pss_one (ps_set (i := 10) sc_law.nd rfl (.inl rfl) pe_str)))
      pss_nil)
      (pss_one (ps_ret (pe_cmpR op_eq (pe_call (ok_law_judged T) (hr.mono (by decide)) (by rfl) T.g_law_judged T.F_law_judged.kp T.b_law_judged .nil pass0 (pa_cons (pv 9) (pa_cons (pv 11) pa_nil))) (pv 10) (nomark _)))))))))))))))))))), ?_⟩
    walk_at "start"
    walk_at "x"
    refine ⟨a, ns, rfl, hS, hl, fun n ms H1 hn s1 e1 r1 l1 => ?_⟩
    walk_at "x"
    refine ⟨by show 2 ≤ sizeLine; decide, fun d hd => ?_⟩
    have hD := Dr.mk e1 r1 l1 hd
    generalize upd H1 d (.lst [.ref n, .int 0]) = H2 at hD
    clear hn s1 e1 r1 l1 hd hS hl
    walk_at "x"
    refine ⟨d, n, rfl, hD, ?_⟩
    rintro _ H3 ⟨z, m, mn, st, rfl, hz, hzd, hzn, hM, n1, n12, hst⟩ hD3 _
    have m2 : 2 ≤ m := hM.1
    have m9 : m ≤ 999999937 := hM.2.1
    walk_at "x"
    refine x_ixL (v := .int (m : Int)) (sq_of hz) (atI_nat (j := 0) rfl) ?_
    walk_at "x"
    refine ⟨d, n, rfl, hD3, ?_⟩
    rintro _ H4 ⟨w, rfl, w0, w1⟩ hD4 k4
    have hz4 := k4 _ _ hz hzd
    walk_at "x"
    refine x_ixL (v := .int (mn : Int)) (sq_of hz4) (atI_nat (j := 1) rfl) ?_
    walk_at "x"
    obtain ⟨c, hc, hc1, hc2⟩ : ∃ c : Nat, (c : Int) = 1 + w % (mn : Int) ∧ 1 ≤ c ∧ c ≤ mn := by
      have h0 := Int.emod_nonneg w (show (mn : Int) ≠ 0 by omega)
      have h1 := Int.emod_lt_of_pos w (show (0 : Int) < mn by omega)
      exact ⟨(1 + w % (mn : Int)).toNat, by omega, by omega, by omega⟩
    rw [← hc]
    refine x_ixL (v := .int ((m ^ mn : Nat) : Int)) (sq_of hz4) (atI_nat (j := 2) rfl) ?_
    walk_at "x"
    refine x_ixL (v := .int (st : Int)) (sq_of hz4) (atI_nat (j := 3) rfl) ?_
    walk_at "x"
    refine ⟨(m : Int), rfl, by omega, by omega, hM.2.2.imp (fun h => by omega) id, fun pr hpr => ?_⟩
    have hpr : pr = true ↔ IsPrime m := hpr.trans ⟨prime_N, prime_I⟩
    have hlg : decide (400000 < ((m ^ mn : Nat) : Int) * ((st : Int) + 1)) = decide (400000 < (st + 1) * m ^ mn) := by
      rw [Nat.mul_comm (st + 1)]
      exact decide_eq_decide.mpr (by rw [show ((m ^ mn : Nat) : Int) * ((st : Int) + 1) = ((m ^ mn * (st + 1) : Nat) : Int) by rw [Int.natCast_mul (m ^ mn)]; rfl]; omega)
    rw [hlg]
    refine x_seqJ (fun σ' H' => σ' = [some (V.ref a), some (.ref d), some (.ref z), some (.int (m : Int)), some (.int (c : Int)), some (.bl (decide (400000 < (st + 1) * m ^ mn))), some (.bl pr), none, none, none, none, none, none] ∧ Dr H' d n ∧ H' z = some (.lst [.int (m : Int), .int (mn : Int), .int ((m ^ mn : Nat) : Int), .int (st : Int)])) (fun N hN => ?_) ?_
    · cases hx : decide (400000 < (st + 1) * m ^ mn) with
      | true =>
        rw [hx] at hN
        walk_at "x"
        walk_at "f"
        exact hN _ _ ⟨rfl, hD4, hz4⟩
      | false =>
        rw [hx] at hN
        walk_at "x"
        walk_at "t"
        refine x_ixL (v := .int ((m ^ mn : Nat) : Int)) (sq_of hz4) (atI_nat (j := 2) rfl) ?_
        walk_at "x"
        refine x_ixL (v := .int (st : Int)) (sq_of hz4) (atI_nat (j := 3) rfl) ?_
        walk_at "x"
        refine x_ite (fun h1 => ?_) (fun h1 => ?_)
        · walk_at "x"
          refine ⟨d, n, rfl, hD4, ?_⟩
          rintro _ H5 ⟨x, rfl, x0, x1⟩ hD5 k5
          walk_at "x"
          refine x_ite (fun h2 => ?_) (fun h2 => ?_)
          · walk_at "x"
            exact q _
          · walk_at "x"
            exact hN _ _ ⟨rfl, hD5, k5 _ _ hz4 hzd⟩
        · walk_at "f"
          exact hN _ _ ⟨rfl, hD4, hz4⟩
    generalize hlong : decide (400000 < (st + 1) * m ^ mn) = lg
    clear hD4 hz4 hD3 hz k4 hD hlg
    rintro _ H5 ⟨rfl, hD5, hz5⟩
    refine x_seqJ (fun σ' H' => ∃ (P : Addr) (as : List Addr), σ' = [some (V.ref a), some (.ref d), some (.ref z), some (.int (m : Int)), some (.int (c : Int)), some (.bl lg), some (.bl pr), some (.ref P), none, none, none, none, none] ∧ Dr H' d n ∧ H' z = some (.lst [.int (m : Int), .int (mn : Int), .int ((m ^ mn : Nat) : Int), .int (st : Int)]) ∧ P ≠ d ∧ P ≠ n ∧ P ≠ z ∧ H' P = some (.lst (as.map V.ref)) ∧ StpsAt H' as (addsL c st)) (fun N hN => ?_) ?_
    · walk_at "x"
      refine x_lcPreQ ?_
      walk_at "x"
      refine x_ixL (v := .int (st : Int)) (sq_of hz5) (atI_nat (j := 3) rfl) ?_
      refine x_lcR1 (st : Int) (fun P k H' => Same H5 H' ∧ ∃ as : List Addr, H' P = some (.lst (as.map V.ref)) ∧ StpsAt H' as (addsL c k)) (fun R r => r) (by omega) (by omega) (fun P hP => ⟨same_upd hP, [], upd_same, rfl, fun i x b e => by simp [addsL] at e⟩) (fun _ => rfl) ?_ ?_
      · rintro P k H' hP hk ⟨hs, as, hA, hst1⟩
        walk_at "x"
        rw [show (k : Int) % (c : Int) = ((k % c : Nat) : Int) from rfl]
        refine ⟨by show 0 ≤ sizeLine; decide, fun t ht => ?_⟩
        have s1 := same_upd (o := .tup []) ht
        have et : (upd H' t (.tup [])) t = some (.tup []) := upd_same
        have hA := s1 _ _ hA
        have hst1 := hst1.tups (Tups.same s1)
        have hs := hs.trans s1
        generalize upd H' t (.tup []) = HA at hs hA hst1 et
        walk_at "x"
        refine ⟨by show 4 ≤ sizeLine; decide, fun r hr => ?_⟩
        have s2 := same_upd (o := .tup [.str "add", .int ((k % c : Nat) : Int), .int 0, .ref t]) hr
        have er : (upd HA r (.tup [.str "add", .int ((k % c : Nat) : Int), .int 0, .ref t])) r = some (.tup [.str "add", .int ((k % c : Nat) : Int), .int 0, .ref t]) := upd_same
        have hA := s2 _ _ hA
        have hst1 := hst1.tups (Tups.same s2)
        have et := s2 _ _ et
        have hs := hs.trans s2
        generalize upd HA r (.tup [.str "add", .int ((k % c : Nat) : Int), .int 0, .ref t]) = HB at hs hA hst1 et er
        have hx : StpAt HB r (.add (k % c) 0 []) := ⟨t, [], er, et, rfl, fun i x b e => by simp at e⟩
        have hal := hst1.1
        rw [addsL_len] at hal
        refine ⟨as.map V.ref, hA, Nat.lt_of_lt_of_le (show _ < 1000000 by rw [List.length_map]; omega) (by decide), sput hs hP, as ++ [r], by rw [upd_same, List.map_append]; rfl, ?_⟩
        rw [addsL_snoc]
        exact (hst1.snoc hx).tups (Tups.put (Tups.refl _) (no_tupL hA))
      rintro P H' hP ⟨hs, as, hA, hst1⟩
      rw [Int.toNat_natCast] at hst1
      exact hN _ _ ⟨P, as, rfl, hD5.same hs, hs _ _ hz5, hD5.new hP, hD5.newN hP, (fun e => by rw [e, hz5] at hP; cases hP), hA, hst1⟩
    rintro _ H6 ⟨P, as, rfl, hD6, hz6, hPd, hPn, hPz, hA, hst1⟩
    obtain ⟨i, rfl⟩ : ∃ i, mn = i + c := ⟨mn - c, by omega⟩
    clear hD5 hz5
    have hal : as.length = st := by have := hst1.1; rw [addsL_len] at this; exact this
    refine x_seqJ (fun σ' H' => ∃ tb : Bool, σ' = [some (V.ref a), some (.ref d), some (.ref z), some (.int (m : Int)), some (.int (c : Int)), some (.bl lg), some (.bl pr), some (.ref P), some (.bl tb), none, none, none, none] ∧ Dr H' d n ∧ H' z = some (.lst [.int (m : Int), .int ((i + c : Nat) : Int), .int ((m ^ (i + c) : Nat) : Int), .int (st : Int)]) ∧ H' P = some (.lst (as.map V.ref)) ∧ StpsAt H' as (addsL c st) ∧ (tb = true → pr = true ∧ 2 < c ∧ 0 < st)) (fun N hN => ?_) ?_
    · refine x_asgJ (fun tb H' => Dr H' d n ∧ H' z = some (.lst [.int (m : Int), .int ((i + c : Nat) : Int), .int ((m ^ (i + c) : Nat) : Int), .int (st : Int)]) ∧ H' P = some (.lst (as.map V.ref)) ∧ StpsAt H' as (addsL c st) ∧ (tb = true → pr = true ∧ 2 < c ∧ 0 < st)) (fun Q2 hQ2 => ?_) (fun tb H' hJ => ?_)
      · have no : Q2 (.bl false) H6 := hQ2 false H6 ⟨hD6, hz6, hA, hst1, fun e => by cases e⟩
        cases pr with
        | false =>
          walk_at "x"
          walk_at "f"
          exact no
        | true =>
          walk_at "x"
          walk_at "t"
          refine x_ite (fun h1 => ?_) (fun h1 => no)
          walk_at "x"
          refine x_len (sq_of hA) ?_
          walk_at "x"
          refine x_ite (fun h2 => ?_) (fun h2 => no)
          rw [List.length_map] at h2
          walk_at "x"
          refine ⟨d, n, rfl, hD6, ?_⟩
          rintro _ H7 ⟨x, rfl, x0, x1⟩ hD7 k7
          walk_at "x"
          exact hQ2 _ H7 ⟨hD7, k7 _ _ hz6 hzd, k7 _ _ hA hPd, hst1.tups (keep_tups46 k7 hD6), fun _ => ⟨rfl, by omega, by omega⟩⟩
      · walk_at "x"
        exact hN _ _ ⟨tb, rfl, hJ⟩
    clear hA hst1 hD6 hz6 hal
    rintro _ H7 ⟨tb, rfl, hD7, hz7, hA, hst1, htb⟩
    have hal : as.length = st := by have := hst1.1; rw [addsL_len] at this; exact this
    have hadd1 : ∀ s ∈ addsL c st, ∃ t, s = .add t 0 [] := fun s h => by
      obtain ⟨t, e⟩ := addsL_mem h
      exact ⟨_, e⟩
    refine x_seqJ (fun σ' H' => ∃ (as : List Addr) (ss : List Stp), σ' = [some (V.ref a), some (.ref d), some (.ref z), some (.int (m : Int)), some (.int (c : Int)), some (.bl lg), some (.bl pr), some (.ref P), some (.bl tb), none, none, none, none] ∧ Dr H' d n ∧ H' z = some (.lst [.int (m : Int), .int ((i + c : Nat) : Int), .int ((m ^ (i + c) : Nat) : Int), .int (st : Int)]) ∧ H' P = some (.lst (as.map V.ref)) ∧ StpsAt H' as ss ∧ ss.length = st ∧ (∀ s ∈ ss, StpOk m c i s) ∧ ((∃ s ∈ ss, isT s = true) ↔ tb = true) ∧ ((∀ s ∈ ss, isT s = false) → ∀ s ∈ ss, ∃ t, s = .add t 0 [])) (fun N hN => ?_) ?_
    · cases tb with
      | false =>
        walk_at "x"
        walk_at "f"
        refine hN _ _ ⟨as, addsL c st, rfl, hD7, hz7, hA, hst1, addsL_len, addsL_ok hc1 (by omega), ⟨fun ⟨s, hs, e⟩ => ?_, fun e => by cases e⟩, fun _ => hadd1⟩
        obtain ⟨t, rfl⟩ := hadd1 s hs
        cases e
      | true =>
        obtain ⟨hp1, h2c, h0s⟩ := htb rfl
        have hprime := hpr.mp hp1
        walk_at "x"
        walk_at "t"
        refine ⟨by show 1 ≤ sizeLine; decide, fun u0 hu0 => ?_⟩
        have s1 := same_upd (o := .tup [V.int 0]) hu0
        have e0 : (upd H7 u0 (.tup [V.int 0])) u0 = some (.tup [V.int 0]) := upd_same
        have hD8 := hD7.same s1
        generalize upd H7 u0 (.tup [V.int 0]) = H8 at s1 e0 hD8
        walk_at "x"
        refine ⟨by show 1 ≤ sizeLine; decide, fun u1 hu1 => ?_⟩
        have s2 := same_upd (o := .tup [V.ref u0]) hu1
        have e1 : (upd H8 u1 (.tup [V.ref u0])) u1 = some (.tup [V.ref u0]) := upd_same
        have hD9 := hD8.same s2
        have e0 := s2 _ _ e0
        have s2 := s1.trans s2
        generalize upd H8 u1 (.tup [V.ref u0]) = H9 at s2 e0 e1 hD9
        walk_at "x"
        refine ⟨by show 6 ≤ sizeLine; decide, fun u2 hu2 => ?_⟩
        have s3 := same_upd (o := .tup [V.str "table", .int 0, .int 1, .ref u1, .int 1, .int 2]) hu2
        have e2 : (upd H9 u2 (.tup [V.str "table", .int 0, .int 1, .ref u1, .int 1, .int 2])) u2 = some (.tup [V.str "table", .int 0, .int 1, .ref u1, .int 1, .int 2]) := upd_same
        have hDa := hD9.same s3
        have e0 := s3 _ _ e0
        have e1 := s3 _ _ e1
        have s3 := s2.trans s3
        generalize upd H9 u2 (.tup [V.str "table", .int 0, .int 1, .ref u1, .int 1, .int 2]) = Ha at s3 e0 e1 e2 hDa
        have htab : StpAt Ha u2 tabS := ⟨u1, e2, [u0], e1, rfl, fun k r b h1 h2 => by
          cases k with
          | zero => cases h1; cases h2; exact e0
          | succ k => simp at h1⟩
        have hA := s3 _ _ hA
        have hz7 := s3 _ _ hz7
        have hst1 := (hst1.tups (Tups.same s3))
        walk_at "x"
        refine ⟨d, n, rfl, hDa, ?_⟩
        rintro _ Hb ⟨y, rfl, y0, y1⟩ hDb kb
        have hA := kb _ _ hA hPd
        have hz7 := kb _ _ hz7 hzd
        have hst1 := hst1.tups (keep_tups46 kb hDa)
        have htab := htab.tups (keep_tups46 kb hDa)
        walk_at "x"
        refine x_len (sq_of hA) ?_
        rw [List.length_map, hal]
        walk_at "x"
        obtain ⟨k, hk, hk2⟩ : ∃ k : Nat, (k : Int) = y % (st : Int) ∧ k < st := by
          have h0 := Int.emod_nonneg y (show (st : Int) ≠ 0 by omega)
          have h1 := Int.emod_lt_of_pos y (show (0 : Int) < st by omega)
          exact ⟨(y % (st : Int)).toNat, by omega, by omega⟩
        rw [← hk]
        have hmem : tabS ∈ (addsL c st).set k tabS := List.mem_iff_getElem?.mpr ⟨k, List.getElem?_set_self (by rw [addsL_len]; exact hk2)⟩
        refine x_subL (k := k) hA (by rw [List.length_map]; exact ixN_nat (by omega)) ?_
        refine hN _ _ ⟨as.set k u2, (addsL c st).set k tabS, rfl, hDb.upd hPd hPn, by rw [upd_ne (Ne.symm hPz)]; exact hz7, by rw [upd_same, List.map_set], (hst1.set htab).tups (Tups.put (Tups.refl _) (no_tupL hA)), by rw [List.length_set, addsL_len], fun s hs => ?_, ⟨fun _ => rfl, fun _ => ⟨tabS, ?_, rfl⟩⟩, fun hno => ?_⟩
        · rcases List.mem_or_eq_of_mem_set hs with h | rfl
          · exact addsL_ok hc1 (by omega) s h
          · exact tabS_ok h2c hprime
        · exact hmem
        · have := hno tabS hmem
          cases this
    clear hA hst1 hD7 hz7 hal hadd1 htb
    rintro _ H8 ⟨as, ss, rfl, hD8, hz8, hA, hst1, hsl, hok, htab, hadd⟩
    have okp : PrOk ss m c i := ⟨m2, by omega, hc1, by omega, by omega, by omega, hok⟩
    refine x_seqJ (fun σ' H' => ∃ p L : Addr, σ' = [some (V.ref a), some (.ref d), some (.ref z), some (.int (m : Int)), some (.int (c : Int)), some (.bl lg), some (.bl pr), some (.ref P), some (.bl tb), some (.ref p), none, none, none] ∧ Dr H' d n ∧ L ≠ d ∧ PrAt K T.C_Program H' p L as ss m c i) (fun N hN => ?_) ?_
    · walk_at "x"
      refine x_make1 ?_
      walk_at "x"
      refine x_ixL (v := .int ((i + c : Nat) : Int)) (sq_of hz8) (atI_nat (j := 1) rfl) ?_
      walk_at "x"
      rw [show ((i + c : Nat) : Int) - (c : Int) = (i : Int) by omega]
      refine new_progA (m := m) hC hA hst1 okp fun pa L H' hL s5 hP => ?_
      exact hN _ _ ⟨pa, L, rfl, hD8.same s5, hD8.new hL, hP⟩
    rintro _ H9 ⟨p, L, rfl, hD9, hLd, hP⟩
    clear hD8 hz8 hA hst1
    refine x_seqJ (fun σ' H' => σ' = [some (V.ref a), some (.ref d), some (.ref z), some (.int (m : Int)), some (.int (c : Int)), some (.bl lg), some (.bl pr), some (.ref P), some (.bl tb), some (.ref p), some (.str "none"), none, none] ∧ H' = H9) (fun N hN => ?_) ?_
    · walk_at "x"
      exact hN _ _ ⟨rfl, rfl⟩
    rintro _ H9 ⟨rfl, rfl⟩
    refine x_seqJ (fun σ' H' => ∃ w : String, σ' = [some (V.ref a), some (.ref d), some (.ref z), some (.int (m : Int)), some (.int (c : Int)), some (.bl lg), some (.bl pr), some (.ref P), some (.bl tb), some (.ref p), some (.str w), none, none] ∧ H' = H9 ∧ dueP m c i ss False fun v => v = w) (fun N hN => ?_) ?_
    · cases hpe : pr with
      | false =>
        rw [hpe] at hN hpr
        have np : ¬ IsPrime m := fun h => Bool.noConfusion (hpr.mpr h)
        walk_at "x"
        walk_at "t"
        exact hN _ _ ⟨"step", rfl, rfl, fun _ => rfl, fun _ h => absurd h np, fun _ h => absurd h np⟩
      | true =>
        rw [hpe] at hN hpr
        have ip := hpr.mp rfl
        cases hte : tb with
        | true =>
          rw [hte] at hN htab
          obtain ⟨s, hs, he⟩ := htab.mpr rfl
          walk_at "x"
          walk_at "f"
          walk_at "t"
          exact hN _ _ ⟨"step", rfl, rfl, fun _ => rfl, fun _ _ h => (by rw [h s hs] at he; cases he), fun _ _ h => (by rw [h s hs] at he; cases he)⟩
        | false =>
          rw [hte] at hN htab
          have nt : ¬ ((¬ IsPrime m ∨ ∃ s ∈ ss, isT s = true) ∨ False) := fun h => by
            rcases h with (h | h) | h
            · exact h ip
            · exact Bool.noConfusion (htab.mp h)
            · exact h
          cases hle : lg with
          | true =>
            rw [hle] at hN hlong
            have hlong := of_decide_eq_true hlong
            walk_at "x"
            walk_at "f"
            walk_at "f"
            walk_at "x"
            walk_at "t"
            exact hN _ _ ⟨"long", rfl, rfl, fun h => absurd h nt, fun _ _ _ _ => rfl, fun _ _ _ h => (by rw [hsl] at h; omega)⟩
          | false =>
            rw [hle] at hN hlong
            have hlong := of_decide_eq_false hlong
            walk_at "x"
            walk_at "f"
            walk_at "f"
            walk_at "x"
            walk_at "f"
            exact hN _ _ ⟨"none", rfl, rfl, fun h => absurd h nt, fun _ _ _ h => (by rw [hsl] at h; omega), fun _ _ _ _ => rfl⟩
    rintro _ H9 ⟨w, rfl, rfl, hdue⟩
    refine x_seqJ (fun σ' H' => σ' = [some (V.ref a), some (.ref d), some (.ref z), some (.int (m : Int)), some (.int (c : Int)), some (.bl lg), some (.bl pr), some (.ref P), some (.bl tb), some (.ref p), some (.str w), none, none] ∧ Same H9 H') (fun N hN => ?_) ?_
    · walk_at "x"
      refine ⟨p, L, as, ss, m, c, i, rfl, hP, okp, hadd, fun h H' s => ?_, fun h0 h1 h2 h3 H' s => ?_, fun h0 h1 h2 h3 H' s => ?_⟩
      · have e : "step" = w := hdue.1 h
        subst e
        walk_at "x"
        refine x_Ne rfl ?_
        walk_at "x"
        rw [decide_eq_true rfl]
        walk_at "f"
        exact hN _ _ ⟨rfl, s⟩
      · have e : "long" = w := hdue.2.1 h0 h1 h2 h3
        subst e
        walk_at "x"
        refine x_Ne rfl ?_
        walk_at "x"
        rw [decide_eq_true rfl]
        walk_at "f"
        exact hN _ _ ⟨rfl, s⟩
      · have e : "none" = w := hdue.2.2 h0 h1 h2 h3
        subst e
        walk_at "x"
        refine x_Ne rfl ?_
        walk_at "x"
        rw [decide_eq_true rfl]
        walk_at "f"
        exact hN _ _ ⟨rfl, s⟩
    rintro _ Ha ⟨rfl, sa⟩
    have hDa := hD9.same sa
    have hPa := hP.same sa
    clear hD9 hP sa
    refine x_seqJ (fun σ' H' => ∃ t : Nat, t < c ∧ σ' = [some (V.ref a), some (.ref d), some (.ref z), some (.int (m : Int)), some (.int (c : Int)), some (.bl lg), some (.bl pr), some (.ref P), some (.bl tb), some (.ref p), some (.str w), some (.int (t : Int)), none] ∧ Dr H' d n ∧ PrAt K T.C_Program H' p L as ss m c i) (fun N hN => ?_) ?_
    · walk_at "x"
      refine ⟨d, n, rfl, hDa, ?_⟩
      rintro _ Hb ⟨y, rfl, y0, y1⟩ hDb kb
      walk_at "x"
      obtain ⟨t, ht, ht2⟩ : ∃ t : Nat, (t : Int) = y % (c : Int) ∧ t < c := by
        have h0 := Int.emod_nonneg y (show (c : Int) ≠ 0 by omega)
        have h1 := Int.emod_lt_of_pos y (show (0 : Int) < c by omega)
        exact ⟨(y % (c : Int)).toNat, by omega, by omega⟩
      rw [← ht]
      exact hN _ _ ⟨t, ht2, rfl, hDb, hPa.keep46 hLd hDa kb⟩
    rintro _ Hb ⟨t, htc, rfl, hDb, hPb⟩
    clear hDa hPa
    refine x_seqJ (fun σ' H' => ∃ (tv : V) (w : String), σ' = [some (V.ref a), some (.ref d), some (.ref z), some (.int (m : Int)), some (.int (c : Int)), some (.bl lg), some (.bl pr), some (.ref P), some (.bl tb), some (.ref p), some (.str w), some (tv), none] ∧ PrAt K T.C_Program H' p L as ss m c i ∧ Odd H' tv ∧ dueP m c i ss (isB tv (c : Int) = false) fun v => v = w) (fun N hN => ?_) ?_
    · walk_at "x"
      refine ⟨d, n, rfl, hDb, ?_⟩
      rintro _ Hc ⟨y, rfl, y0, y1⟩ hDc kc
      have hPc := hPb.keep46 hLd hDb kc
      walk_at "x"
      refine x_ite (fun h1 => ?_) (fun h1 => ?_)
      · walk_at "x"
        refine ⟨by show 5 ≤ sizeLine; decide, fun u hu => ?_⟩
        have s1 := same_upd (o := .lst [V.int (c : Int), .int (-1), .bl true, .non, .str "0"]) hu
        have e1 : (upd Hc u (.lst [V.int (c : Int), .int (-1), .bl true, .non, .str "0"])) u = some (.lst [V.int (c : Int), .int (-1), .bl true, .non, .str "0"]) := upd_same
        have hud := hDc.new hu
        have hDd := hDc.same s1
        have hPd2 := hPc.same s1
        generalize upd Hc u (.lst [V.int (c : Int), .int (-1), .bl true, .non, .str "0"]) = Hd at s1 e1 hDd hPd2
        walk_at "x"
        refine ⟨d, n, rfl, hDd, ?_⟩
        rintro _ He ⟨x, rfl, x0, x1⟩ hDe ke
        have hPe := hPd2.keep46 hLd hDd ke
        walk_at "x"
        obtain ⟨b, hv, hmm⟩ := at_lt (xs := [V.int (c : Int), .int (-1), .bl true, .non, .str "0"]) (i := x % 5) (Int.emod_nonneg _ (by decide)) (Int.emod_lt_of_pos x (show (0 : Int) < 5 by decide))
        refine x_ixL (sq_of (ke _ _ e1 hud)) hv ?_
        walk_at "x"
        have hb : Odd He b ∧ isB b (c : Int) = false := by
          have hmm : b = V.int (c : Int) ∨ b = V.int (-1) ∨ b = V.bl true ∨ b = V.non ∨ b = V.str "0" := by simpa using hmm
          rcases hmm with rfl | rfl | rfl | rfl | rfl
          · refine ⟨.int _, ?_⟩
            show (decide ((0 : Int) ≤ (c : Int)) && decide ((c : Int) < (c : Int))) = false
            rw [decide_eq_false (Int.lt_irrefl _), Bool.and_false]
          · exact ⟨.int _, rfl⟩
          · exact ⟨.bl _, rfl⟩
          · exact ⟨.non, rfl⟩
          · exact ⟨.str _, rfl⟩
        exact hN _ _ ⟨b, "step", rfl, hPe, hb.1, fun _ => rfl, fun h => absurd hb.2 h, fun h => absurd hb.2 h⟩
      · walk_at "x"
        have hb : isB (.int (t : Int)) (c : Int) = true := by
          show (decide ((0 : Int) ≤ (t : Int)) && decide ((t : Int) < (c : Int))) = true
          rw [decide_eq_true (show (0 : Int) ≤ (t : Int) by omega), decide_eq_true (show (t : Int) < (c : Int) by omega)]
          rfl
        exact hN _ _ ⟨.int (t : Int), w, rfl, hPc, .int _, fun h => hdue.1 (h.imp id fun z => by rw [hb] at z; cases z), fun _ => hdue.2.1 fun z => z, fun _ => hdue.2.2 fun z => z⟩
    clear hdue hDb hPb
    rintro _ Hc ⟨tv, w, rfl, hP, hO, hdue⟩
    walk_at "x"
    refine ⟨p, L, as, ss, m, c, i, tv, rfl, hP, okp, hO, fun t ht hp hT => adds_clean (by omega) (hadd hT), fun h H' s => ?_, fun h0 h1 h2 h3 H' s => ?_, fun h0 h1 h2 h3 H' s => ?_⟩
    · have e : "step" = w := hdue.1 h
      subst e
      walk_at "x"
      refine x_Eq rfl ?_
      rw [decide_eq_true rfl]
      exact q _
    · have e : "long" = w := hdue.2.1 h0 h1 h2 h3
      subst e
      walk_at "x"
      refine x_Eq rfl ?_
      rw [decide_eq_true rfl]
      exact q _
    · have e : "none" = w := hdue.2.2 h0 h1 h2 h3
      subst e
      walk_at "x"
      refine x_Eq rfl ?_
      rw [decide_eq_true rfl]
      exact q _


theorem all_mk {l : PySem.W.OpenLaw} {w : World} {K : PySem.W.Frag} {h : Heap} {mg : Str → Option Value} {fa : Addr} (X : K.In h) (G : h.Ns mainGlobals mg) (hfa : mg "law" = some (.ref fa))
    {f0 : Addr} {od0 an0 : Option Addr} {sl0 : Array (Option Value)} {oc0 kV0 dc0 pm0 cd0 ct0 : Value}
    {f1 : Addr} {od1 an1 : Option Addr} {sl1 : Array (Option Value)} {oc1 kV1 dc1 pm1 cd1 ct1 : Value}
    {f2 : Addr} {od2 an2 : Option Addr} {sl2 : Array (Option Value)} {oc2 kV2 dc2 pm2 cd2 ct2 : Value}
    {f3 : Addr} {od3 an3 : Option Addr} {sl3 : Array (Option Value)} {oc3 kV3 dc3 pm3 cd3 ct3 : Value}
    {f4 : Addr} {od4 an4 : Option Addr} {sl4 : Array (Option Value)} {oc4 kV4 dc4 pm4 cd4 ct4 : Value}
    {f5 : Addr} {od5 an5 : Option Addr} {sl5 : Array (Option Value)} {oc5 kV5 dc5 pm5 cd5 ct5 : Value}
    {f6 : Addr} {od6 an6 : Option Addr} {sl6 : Array (Option Value)} {oc6 kV6 dc6 pm6 cd6 ct6 : Value}
    {f7 : Addr} {od7 an7 : Option Addr} {sl7 : Array (Option Value)} {oc7 kV7 dc7 pm7 cd7 ct7 : Value}
    {f8 : Addr} {od8 an8 : Option Addr} {sl8 : Array (Option Value)} {oc8 kV8 dc8 pm8 cd8 ct8 : Value}
    {f9 : Addr} {od9 an9 : Option Addr} {sl9 : Array (Option Value)} {oc9 kV9 dc9 pm9 cd9 ct9 : Value}
    {f10 : Addr} {od10 an10 : Option Addr} {sl10 : Array (Option Value)} {oc10 kV10 dc10 pm10 cd10 ct10 : Value}
    {f11 : Addr} {od11 an11 : Option Addr} {sl11 : Array (Option Value)} {oc11 kV11 dc11 pm11 cd11 ct11 : Value}
    {f12 : Addr} {od12 an12 : Option Addr} {sl12 : Array (Option Value)} {oc12 kV12 dc12 pm12 cd12 ct12 : Value}
    {f13 : Addr} {od13 an13 : Option Addr} {sl13 : Array (Option Value)} {oc13 kV13 dc13 pm13 cd13 ct13 : Value}
    {f14 : Addr} {od14 an14 : Option Addr} {sl14 : Array (Option Value)} {oc14 kV14 dc14 pm14 cd14 ct14 : Value}
    {f15 : Addr} {od15 an15 : Option Addr} {sl15 : Array (Option Value)} {oc15 kV15 dc15 pm15 cd15 ct15 : Value}
    {f16 : Addr} {od16 an16 : Option Addr} {sl16 : Array (Option Value)} {oc16 kV16 dc16 pm16 cd16 ct16 : Value}
    {f17 : Addr} {od17 an17 : Option Addr} {sl17 : Array (Option Value)} {oc17 kV17 dc17 pm17 cd17 ct17 : Value}
    {f18 : Addr} {od18 an18 : Option Addr} {sl18 : Array (Option Value)} {oc18 kV18 dc18 pm18 cd18 ct18 : Value}
    {f19 : Addr} {od19 an19 : Option Addr} {sl19 : Array (Option Value)} {oc19 kV19 dc19 pm19 cd19 ct19 : Value}
    {f20 : Addr} {od20 an20 : Option Addr} {sl20 : Array (Option Value)} {oc20 kV20 dc20 pm20 cd20 ct20 : Value}
    {f21 : Addr} {od21 an21 : Option Addr} {sl21 : Array (Option Value)} {oc21 kV21 dc21 pm21 cd21 ct21 : Value}
    {f22 : Addr} {od22 an22 : Option Addr} {sl22 : Array (Option Value)} {oc22 kV22 dc22 pm22 cd22 ct22 : Value}
    {f23 : Addr} {od23 an23 : Option Addr} {sl23 : Array (Option Value)} {oc23 kV23 dc23 pm23 cd23 ct23 : Value}
    {f24 : Addr} {od24 an24 : Option Addr} {sl24 : Array (Option Value)} {oc24 kV24 dc24 pm24 cd24 ct24 : Value}
    {f25 : Addr} {od25 an25 : Option Addr} {sl25 : Array (Option Value)} {oc25 kV25 dc25 pm25 cd25 ct25 : Value}
    {f26 : Addr} {od26 an26 : Option Addr} {sl26 : Array (Option Value)} {oc26 kV26 dc26 pm26 cd26 ct26 : Value}
    {f27 : Addr} {od27 an27 : Option Addr} {sl27 : Array (Option Value)} {oc27 kV27 dc27 pm27 cd27 ct27 : Value}
    {f28 : Addr} {od28 an28 : Option Addr} {sl28 : Array (Option Value)} {oc28 kV28 dc28 pm28 cd28 ct28 : Value}
    {f29 : Addr} {od29 an29 : Option Addr} {sl29 : Array (Option Value)} {oc29 kV29 dc29 pm29 cd29 ct29 : Value}
    {f30 : Addr} {od30 an30 : Option Addr} {sl30 : Array (Option Value)} {oc30 kV30 dc30 pm30 cd30 ct30 : Value}
    {f31 : Addr} {od31 an31 : Option Addr} {sl31 : Array (Option Value)} {oc31 kV31 dc31 pm31 cd31 ct31 : Value}
    {f32 : Addr} {od32 an32 : Option Addr} {sl32 : Array (Option Value)} {oc32 kV32 dc32 pm32 cd32 ct32 : Value}
    {f33 : Addr} {od33 an33 : Option Addr} {sl33 : Array (Option Value)} {oc33 kV33 dc33 pm33 cd33 ct33 : Value}
    {f34 : Addr} {od34 an34 : Option Addr} {sl34 : Array (Option Value)} {oc34 kV34 dc34 pm34 cd34 ct34 : Value}
    {f35 : Addr} {od35 an35 : Option Addr} {sl35 : Array (Option Value)} {oc35 kV35 dc35 pm35 cd35 ct35 : Value}
    {f36 : Addr} {od36 an36 : Option Addr} {sl36 : Array (Option Value)} {oc36 kV36 dc36 pm36 cd36 ct36 : Value}
    {f37 : Addr} {od37 an37 : Option Addr} {sl37 : Array (Option Value)} {oc37 kV37 dc37 pm37 cd37 ct37 : Value}
    {f38 : Addr} {od38 an38 : Option Addr} {sl38 : Array (Option Value)} {oc38 kV38 dc38 pm38 cd38 ct38 : Value}
    {f39 : Addr} {od39 an39 : Option Addr} {sl39 : Array (Option Value)} {oc39 kV39 dc39 pm39 cd39 ct39 : Value}
    {f40 : Addr} {od40 an40 : Option Addr} {sl40 : Array (Option Value)} {oc40 kV40 dc40 pm40 cd40 ct40 : Value}
    {f41 : Addr} {od41 an41 : Option Addr} {sl41 : Array (Option Value)} {oc41 kV41 dc41 pm41 cd41 ct41 : Value}
    {f42 : Addr} {od42 an42 : Option Addr} {sl42 : Array (Option Value)} {oc42 kV42 dc42 pm42 cd42 ct42 : Value}
    {C_Program : Addr}
    {E_BrimfulError : Addr}
    {E_BadStep : Addr}
    {E_BadMemory : Addr}
    {E_TooLong : Addr}
    {t_GREATEST_EFFORT : Tok}
    {t_GREATEST_MODULUS : Tok}
    {t_MOST_CELLS : Tok}
    {t_MOST_FACTORS : Tok}
    {t_MOST_INPUTS : Tok}
    {t_MOST_STEPS : Tok}
    (aC_Program : PySem.W.nsIn K mainGlobals "Program" = some (some (.ref C_Program)))
    (pg_Program : PySem.W.plainGet K C_Program Str.empty = true) (hd_Program : PySem.W.hasDictIn K C_Program = true) (po_Program : PySem.W.plainOver K C_Program = true)
    (sa_Program : PySem.W.findIn K (.ref C_Program) "__setattr__" = some (some (.builtin "object.__setattr__"))) (mk_Program : PySem.W.makesIn K C_Program = true) (kc_Program : PySem.W.keepIn K (.ref C_Program) = true)
    (hnE : PySem.W.specialIn K (.builtin "object.__class__") "__get__" = some (some (.builtin "getset_descriptor.__get__"))) (htE : PySem.W.takesIn K (.builtin "object.__class__") = some true)
    (aE_BrimfulError : PySem.W.nsIn K mainGlobals "BrimfulError" = some (some (.ref E_BrimfulError))) (xE_BrimfulError : PySem.W.excIn K E_BrimfulError [.type "ValueError", .type "Exception", .type "BaseException", .type "object"] "ValueError.__new__" = true) (kE_BrimfulError : PySem.W.keepIn K (.ref E_BrimfulError) = true)
    (bE_BrimfulError : PySem.W.subIn K (.ref E_BrimfulError) (.type "BaseException") = some true) (tE_BrimfulError : PySem.W.typeIn K (.ref E_BrimfulError) = some (.type "type")) (dE_BrimfulError : PySem.W.hasDictIn K E_BrimfulError = true)
    (h1E_BrimfulError : PySem.W.findIn K (.ref E_BrimfulError) "__getattribute__" = some (some (.builtin "BaseException.__getattribute__"))) (h2E_BrimfulError : PySem.W.findIn K (.ref E_BrimfulError) "__getattr__" = some none) (h3E_BrimfulError : PySem.W.findIn K (.ref E_BrimfulError) "__class__" = some (some (.builtin "object.__class__"))) (h4E_BrimfulError : PySem.W.mroIn K E_BrimfulError (.type "object") = some true)
    (aE_BadStep : PySem.W.nsIn K mainGlobals "BadStep" = some (some (.ref E_BadStep))) (xE_BadStep : PySem.W.excIn K E_BadStep [.type "ValueError", .type "Exception", .type "BaseException", .type "object"] "ValueError.__new__" = true) (kE_BadStep : PySem.W.keepIn K (.ref E_BadStep) = true)
    (bE_BadStep : PySem.W.subIn K (.ref E_BadStep) (.type "BaseException") = some true) (tE_BadStep : PySem.W.typeIn K (.ref E_BadStep) = some (.type "type")) (dE_BadStep : PySem.W.hasDictIn K E_BadStep = true)
    (h1E_BadStep : PySem.W.findIn K (.ref E_BadStep) "__getattribute__" = some (some (.builtin "BaseException.__getattribute__"))) (h2E_BadStep : PySem.W.findIn K (.ref E_BadStep) "__getattr__" = some none) (h3E_BadStep : PySem.W.findIn K (.ref E_BadStep) "__class__" = some (some (.builtin "object.__class__"))) (h4E_BadStep : PySem.W.mroIn K E_BadStep (.type "object") = some true)
    (aE_BadMemory : PySem.W.nsIn K mainGlobals "BadMemory" = some (some (.ref E_BadMemory))) (xE_BadMemory : PySem.W.excIn K E_BadMemory [.type "ValueError", .type "Exception", .type "BaseException", .type "object"] "ValueError.__new__" = true) (kE_BadMemory : PySem.W.keepIn K (.ref E_BadMemory) = true)
    (bE_BadMemory : PySem.W.subIn K (.ref E_BadMemory) (.type "BaseException") = some true) (tE_BadMemory : PySem.W.typeIn K (.ref E_BadMemory) = some (.type "type")) (dE_BadMemory : PySem.W.hasDictIn K E_BadMemory = true)
    (h1E_BadMemory : PySem.W.findIn K (.ref E_BadMemory) "__getattribute__" = some (some (.builtin "BaseException.__getattribute__"))) (h2E_BadMemory : PySem.W.findIn K (.ref E_BadMemory) "__getattr__" = some none) (h3E_BadMemory : PySem.W.findIn K (.ref E_BadMemory) "__class__" = some (some (.builtin "object.__class__"))) (h4E_BadMemory : PySem.W.mroIn K E_BadMemory (.type "object") = some true)
    (aE_TooLong : PySem.W.nsIn K mainGlobals "TooLong" = some (some (.ref E_TooLong))) (xE_TooLong : PySem.W.excIn K E_TooLong [.type "ValueError", .type "Exception", .type "BaseException", .type "object"] "ValueError.__new__" = true) (kE_TooLong : PySem.W.keepIn K (.ref E_TooLong) = true)
    (bE_TooLong : PySem.W.subIn K (.ref E_TooLong) (.type "BaseException") = some true) (tE_TooLong : PySem.W.typeIn K (.ref E_TooLong) = some (.type "type")) (dE_TooLong : PySem.W.hasDictIn K E_TooLong = true)
    (h1E_TooLong : PySem.W.findIn K (.ref E_TooLong) "__getattribute__" = some (some (.builtin "BaseException.__getattribute__"))) (h2E_TooLong : PySem.W.findIn K (.ref E_TooLong) "__getattr__" = some none) (h3E_TooLong : PySem.W.findIn K (.ref E_TooLong) "__class__" = some (some (.builtin "object.__class__"))) (h4E_TooLong : PySem.W.mroIn K E_TooLong (.type "object") = some true)
    (sE_BrimfulError_BrimfulError : PySem.W.subIn K (.ref E_BrimfulError) (.ref E_BrimfulError) = some true)
    (sE_BrimfulError_BadStep : PySem.W.subIn K (.ref E_BrimfulError) (.ref E_BadStep) = some false)
    (sE_BrimfulError_BadMemory : PySem.W.subIn K (.ref E_BrimfulError) (.ref E_BadMemory) = some false)
    (sE_BrimfulError_TooLong : PySem.W.subIn K (.ref E_BrimfulError) (.ref E_TooLong) = some false)
    (sE_BadStep_BrimfulError : PySem.W.subIn K (.ref E_BadStep) (.ref E_BrimfulError) = some true)
    (sE_BadStep_BadStep : PySem.W.subIn K (.ref E_BadStep) (.ref E_BadStep) = some true)
    (sE_BadStep_BadMemory : PySem.W.subIn K (.ref E_BadStep) (.ref E_BadMemory) = some false)
    (sE_BadStep_TooLong : PySem.W.subIn K (.ref E_BadStep) (.ref E_TooLong) = some false)
    (sE_BadMemory_BrimfulError : PySem.W.subIn K (.ref E_BadMemory) (.ref E_BrimfulError) = some true)
    (sE_BadMemory_BadStep : PySem.W.subIn K (.ref E_BadMemory) (.ref E_BadStep) = some false)
    (sE_BadMemory_BadMemory : PySem.W.subIn K (.ref E_BadMemory) (.ref E_BadMemory) = some true)
    (sE_BadMemory_TooLong : PySem.W.subIn K (.ref E_BadMemory) (.ref E_TooLong) = some false)
    (sE_TooLong_BrimfulError : PySem.W.subIn K (.ref E_TooLong) (.ref E_BrimfulError) = some true)
    (sE_TooLong_BadStep : PySem.W.subIn K (.ref E_TooLong) (.ref E_BadStep) = some false)
    (sE_TooLong_BadMemory : PySem.W.subIn K (.ref E_TooLong) (.ref E_BadMemory) = some false)
    (sE_TooLong_TooLong : PySem.W.subIn K (.ref E_TooLong) (.ref E_TooLong) = some true)
    (a0 : PySem.W.nsIn K mainGlobals "is_below" = some (some (.ref f0)))
    (l0 : K.lookup f0 = some ⟨oc0, od0, .func (PySem.W.fnOf "is_below" "is_below" (defArgs s_is_below) (defBody s_is_below) (defScope s_is_below) .none kV0 dc0 pm0 an0 cd0 ct0), sl0⟩)
    (c0 : PySem.W.codeIn K cd0 "is_below" = true) (k0 : PySem.W.keepIn K (.ref f0) = true)
    (a1 : PySem.W.nsIn K mainGlobals "is_modulus" = some (some (.ref f1)))
    (l1 : K.lookup f1 = some ⟨oc1, od1, .func (PySem.W.fnOf "is_modulus" "is_modulus" (defArgs s_is_modulus) (defBody s_is_modulus) (defScope s_is_modulus) .none kV1 dc1 pm1 an1 cd1 ct1), sl1⟩)
    (c1 : PySem.W.codeIn K cd1 "is_modulus" = true) (k1 : PySem.W.keepIn K (.ref f1) = true)
    (a2 : PySem.W.nsIn K mainGlobals "is_prime" = some (some (.ref f2)))
    (l2 : K.lookup f2 = some ⟨oc2, od2, .func (PySem.W.fnOf "is_prime" "is_prime" (defArgs s_is_prime) (defBody s_is_prime) (defScope s_is_prime) .none kV2 dc2 pm2 an2 cd2 ct2), sl2⟩)
    (c2 : PySem.W.codeIn K cd2 "is_prime" = true) (k2 : PySem.W.keepIn K (.ref f2) = true)
    (a3 : PySem.W.nsIn K mainGlobals "inverse_of" = some (some (.ref f3)))
    (l3 : K.lookup f3 = some ⟨oc3, od3, .func (PySem.W.fnOf "inverse_of" "inverse_of" (defArgs s_inverse_of) (defBody s_inverse_of) (defScope s_inverse_of) .none kV3 dc3 pm3 an3 cd3 ct3), sl3⟩)
    (c3 : PySem.W.codeIn K cd3 "inverse_of" = true) (k3 : PySem.W.keepIn K (.ref f3) = true)
    (a4 : PySem.W.nsIn K mainGlobals "interpolate" = some (some (.ref f4)))
    (l4 : K.lookup f4 = some ⟨oc4, od4, .func (PySem.W.fnOf "interpolate" "interpolate" (defArgs s_interpolate) (defBody s_interpolate) (defScope s_interpolate) .none kV4 dc4 pm4 an4 cd4 ct4), sl4⟩)
    (c4 : PySem.W.codeIn K cd4 "interpolate" = true) (k4 : PySem.W.keepIn K (.ref f4) = true)
    (a5 : PySem.W.nsIn K mainGlobals "_weighted" = some (some (.ref f5)))
    (l5 : K.lookup f5 = some ⟨oc5, od5, .func (PySem.W.fnOf "_weighted" "_weighted" (defArgs s_weighted) (defBody s_weighted) (defScope s_weighted) .none kV5 dc5 pm5 an5 cd5 ct5), sl5⟩)
    (c5 : PySem.W.codeIn K cd5 "_weighted" = true) (k5 : PySem.W.keepIn K (.ref f5) = true)
    (a6 : PySem.W.nsIn K mainGlobals "_shares" = some (some (.ref f6)))
    (l6 : K.lookup f6 = some ⟨oc6, od6, .func (PySem.W.fnOf "_shares" "_shares" (defArgs s_shares) (defBody s_shares) (defScope s_shares) .none kV6 dc6 pm6 an6 cd6 ct6), sl6⟩)
    (c6 : PySem.W.codeIn K cd6 "_shares" = true) (k6 : PySem.W.keepIn K (.ref f6) = true)
    (a7 : PySem.W.nsIn K mainGlobals "products_of_differences" = some (some (.ref f7)))
    (l7 : K.lookup f7 = some ⟨oc7, od7, .func (PySem.W.fnOf "products_of_differences" "products_of_differences" (defArgs s_products_of_differences) (defBody s_products_of_differences) (defScope s_products_of_differences) .none kV7 dc7 pm7 an7 cd7 ct7), sl7⟩)
    (c7 : PySem.W.codeIn K cd7 "products_of_differences" = true) (k7 : PySem.W.keepIn K (.ref f7) = true)
    (a8 : PySem.W.nsIn K mainGlobals "grid_points" = some (some (.ref f8)))
    (l8 : K.lookup f8 = some ⟨oc8, od8, .func (PySem.W.fnOf "grid_points" "grid_points" (defArgs s_grid_points) (defBody s_grid_points) (defScope s_grid_points) .none kV8 dc8 pm8 an8 cd8 ct8), sl8⟩)
    (c8 : PySem.W.codeIn K cd8 "grid_points" = true) (k8 : PySem.W.keepIn K (.ref f8) = true)
    (a9 : PySem.W.nsIn K mainGlobals "coefficients" = some (some (.ref f9)))
    (l9 : K.lookup f9 = some ⟨oc9, od9, .func (PySem.W.fnOf "coefficients" "coefficients" (defArgs s_coefficients) (defBody s_coefficients) (defScope s_coefficients) .none kV9 dc9 pm9 an9 cd9 ct9), sl9⟩)
    (c9 : PySem.W.codeIn K cd9 "coefficients" = true) (k9 : PySem.W.keepIn K (.ref f9) = true)
    (a10 : PySem.W.nsIn K mainGlobals "_combined" = some (some (.ref f10)))
    (l10 : K.lookup f10 = some ⟨oc10, od10, .func (PySem.W.fnOf "_combined" "_combined" (defArgs s_combined) (defBody s_combined) (defScope s_combined) .none kV10 dc10 pm10 an10 cd10 ct10), sl10⟩)
    (c10 : PySem.W.codeIn K cd10 "_combined" = true) (k10 : PySem.W.keepIn K (.ref f10) = true)
    (a11 : PySem.W.nsIn K mainGlobals "_rows_for" = some (some (.ref f11)))
    (l11 : K.lookup f11 = some ⟨oc11, od11, .func (PySem.W.fnOf "_rows_for" "_rows_for" (defArgs s_rows_for) (defBody s_rows_for) (defScope s_rows_for) .none kV11 dc11 pm11 an11 cd11 ct11), sl11⟩)
    (c11 : PySem.W.codeIn K cd11 "_rows_for" = true) (k11 : PySem.W.keepIn K (.ref f11) = true)
    (a12 : PySem.W.nsIn K mainGlobals "_times" = some (some (.ref f12)))
    (l12 : K.lookup f12 = some ⟨oc12, od12, .func (PySem.W.fnOf "_times" "_times" (defArgs s_times) (defBody s_times) (defScope s_times) .none kV12 dc12 pm12 an12 cd12 ct12), sl12⟩)
    (c12 : PySem.W.codeIn K cd12 "_times" = true) (k12 : PySem.W.keepIn K (.ref f12) = true)
    (a13 : PySem.W.nsIn K mainGlobals "_divided" = some (some (.ref f13)))
    (l13 : K.lookup f13 = some ⟨oc13, od13, .func (PySem.W.fnOf "_divided" "_divided" (defArgs s_divided) (defBody s_divided) (defScope s_divided) .none kV13 dc13 pm13 an13 cd13 ct13), sl13⟩)
    (c13 : PySem.W.codeIn K cd13 "_divided" = true) (k13 : PySem.W.keepIn K (.ref f13) = true)
    (a14 : PySem.W.nsIn K mainGlobals "is_step" = some (some (.ref f14)))
    (l14 : K.lookup f14 = some ⟨oc14, od14, .func (PySem.W.fnOf "is_step" "is_step" (defArgs s_is_step) (defBody s_is_step) (defScope s_is_step) .none kV14 dc14 pm14 an14 cd14 ct14), sl14⟩)
    (c14 : PySem.W.codeIn K cd14 "is_step" = true) (k14 : PySem.W.keepIn K (.ref f14) = true)
    (a15 : PySem.W.nsIn K mainGlobals "_are_factors" = some (some (.ref f15)))
    (l15 : K.lookup f15 = some ⟨oc15, od15, .func (PySem.W.fnOf "_are_factors" "_are_factors" (defArgs s_are_factors) (defBody s_are_factors) (defScope s_are_factors) .none kV15 dc15 pm15 an15 cd15 ct15), sl15⟩)
    (c15 : PySem.W.codeIn K cd15 "_are_factors" = true) (k15 : PySem.W.keepIn K (.ref f15) = true)
    (a16 : PySem.W.nsIn K mainGlobals "_is_factor" = some (some (.ref f16)))
    (l16 : K.lookup f16 = some ⟨oc16, od16, .func (PySem.W.fnOf "_is_factor" "_is_factor" (defArgs s_is_factor) (defBody s_is_factor) (defScope s_is_factor) .none kV16 dc16 pm16 an16 cd16 ct16), sl16⟩)
    (c16 : PySem.W.codeIn K cd16 "_is_factor" = true) (k16 : PySem.W.keepIn K (.ref f16) = true)
    (a17 : PySem.W.nsIn K mainGlobals "_are_three_cells" = some (some (.ref f17)))
    (l17 : K.lookup f17 = some ⟨oc17, od17, .func (PySem.W.fnOf "_are_three_cells" "_are_three_cells" (defArgs s_are_three_cells) (defBody s_are_three_cells) (defScope s_are_three_cells) .none kV17 dc17 pm17 an17 cd17 ct17), sl17⟩)
    (c17 : PySem.W.codeIn K cd17 "_are_three_cells" = true) (k17 : PySem.W.keepIn K (.ref f17) = true)
    (a18 : PySem.W.nsIn K mainGlobals "_is_sign" = some (some (.ref f18)))
    (l18 : K.lookup f18 = some ⟨oc18, od18, .func (PySem.W.fnOf "_is_sign" "_is_sign" (defArgs s_is_sign) (defBody s_is_sign) (defScope s_is_sign) .none kV18 dc18 pm18 an18 cd18 ct18), sl18⟩)
    (c18 : PySem.W.codeIn K cd18 "_is_sign" = true) (k18 : PySem.W.keepIn K (.ref f18) = true)
    (a19 : PySem.W.nsIn K mainGlobals "is_table" = some (some (.ref f19)))
    (l19 : K.lookup f19 = some ⟨oc19, od19, .func (PySem.W.fnOf "is_table" "is_table" (defArgs s_is_table) (defBody s_is_table) (defScope s_is_table) .none kV19 dc19 pm19 an19 cd19 ct19), sl19⟩)
    (c19 : PySem.W.codeIn K cd19 "is_table" = true) (k19 : PySem.W.keepIn K (.ref f19) = true)
    (a20 : PySem.W.nsIn K mainGlobals "_is_row" = some (some (.ref f20)))
    (l20 : K.lookup f20 = some ⟨oc20, od20, .func (PySem.W.fnOf "_is_row" "_is_row" (defArgs s_is_row) (defBody s_is_row) (defScope s_is_row) .none kV20 dc20 pm20 an20 cd20 ct20), sl20⟩)
    (c20 : PySem.W.codeIn K cd20 "_is_row" = true) (k20 : PySem.W.keepIn K (.ref f20) = true)
    (a21 : PySem.W.nsIn K mainGlobals "changes" = some (some (.ref f21)))
    (l21 : K.lookup f21 = some ⟨oc21, od21, .func (PySem.W.fnOf "changes" "changes" (defArgs s_changes) (defBody s_changes) (defScope s_changes) .none kV21 dc21 pm21 an21 cd21 ct21), sl21⟩)
    (c21 : PySem.W.codeIn K cd21 "changes" = true) (k21 : PySem.W.keepIn K (.ref f21) = true)
    (a22 : PySem.W.nsIn K mainGlobals "performed" = some (some (.ref f22)))
    (l22 : K.lookup f22 = some ⟨oc22, od22, .func (PySem.W.fnOf "performed" "performed" (defArgs s_performed) (defBody s_performed) (defScope s_performed) .none kV22 dc22 pm22 an22 cd22 ct22), sl22⟩)
    (c22 : PySem.W.codeIn K cd22 "performed" = true) (k22 : PySem.W.keepIn K (.ref f22) = true)
    (a23 : PySem.W.nsIn K mainGlobals "_product_of" = some (some (.ref f23)))
    (l23 : K.lookup f23 = some ⟨oc23, od23, .func (PySem.W.fnOf "_product_of" "_product_of" (defArgs s_product_of) (defBody s_product_of) (defScope s_product_of) .none kV23 dc23 pm23 an23 cd23 ct23), sl23⟩)
    (c23 : PySem.W.codeIn K cd23 "_product_of" = true) (k23 : PySem.W.keepIn K (.ref f23) = true)
    (a24 : PySem.W.nsIn K mainGlobals "_check_sizes" = some (some (.ref f24)))
    (l24 : K.lookup f24 = some ⟨oc24, od24, .func (PySem.W.fnOf "_check_sizes" "_check_sizes" (defArgs s_check_sizes) (defBody s_check_sizes) (defScope s_check_sizes) .none kV24 dc24 pm24 an24 cd24 ct24), sl24⟩)
    (c24 : PySem.W.codeIn K cd24 "_check_sizes" = true) (k24 : PySem.W.keepIn K (.ref f24) = true)
    (a25 : PySem.W.nsIn K mainGlobals "_check_steps" = some (some (.ref f25)))
    (l25 : K.lookup f25 = some ⟨oc25, od25, .func (PySem.W.fnOf "_check_steps" "_check_steps" (defArgs s_check_steps) (defBody s_check_steps) (defScope s_check_steps) .none kV25 dc25 pm25 an25 cd25 ct25), sl25⟩)
    (c25 : PySem.W.codeIn K cd25 "_check_steps" = true) (k25 : PySem.W.keepIn K (.ref f25) = true)
    (a26 : PySem.W.nsIn K mainGlobals "judge" = some (some (.ref f26)))
    (l26 : K.lookup f26 = some ⟨oc26, od26, .func (PySem.W.fnOf "judge" "judge" (defArgs s_judge) (defBody s_judge) (defScope s_judge) .none kV26 dc26 pm26 an26 cd26 ct26), sl26⟩)
    (c26 : PySem.W.codeIn K cd26 "judge" = true) (k26 : PySem.W.keepIn K (.ref f26) = true)
    (a27 : PySem.W.nsIn K mainGlobals "_check_kind" = some (some (.ref f27)))
    (l27 : K.lookup f27 = some ⟨oc27, od27, .func (PySem.W.fnOf "_check_kind" "_check_kind" (defArgs s_check_kind) (defBody s_check_kind) (defScope s_check_kind) .none kV27 dc27 pm27 an27 cd27 ct27), sl27⟩)
    (c27 : PySem.W.codeIn K cd27 "_check_kind" = true) (k27 : PySem.W.keepIn K (.ref f27) = true)
    (a28 : PySem.W.nsIn K mainGlobals "_check_effort" = some (some (.ref f28)))
    (l28 : K.lookup f28 = some ⟨oc28, od28, .func (PySem.W.fnOf "_check_effort" "_check_effort" (defArgs s_check_effort) (defBody s_check_effort) (defScope s_check_effort) .none kV28 dc28 pm28 an28 cd28 ct28), sl28⟩)
    (c28 : PySem.W.codeIn K cd28 "_check_effort" = true) (k28 : PySem.W.keepIn K (.ref f28) = true)
    (a29 : PySem.W.nsIn K mainGlobals "_spoilt_cells" = some (some (.ref f29)))
    (l29 : K.lookup f29 = some ⟨oc29, od29, .func (PySem.W.fnOf "_spoilt_cells" "_spoilt_cells" (defArgs s_spoilt_cells) (defBody s_spoilt_cells) (defScope s_spoilt_cells) .none kV29 dc29 pm29 an29 cd29 ct29), sl29⟩)
    (c29 : PySem.W.codeIn K cd29 "_spoilt_cells" = true) (k29 : PySem.W.keepIn K (.ref f29) = true)
    (a30 : PySem.W.nsIn K mainGlobals "polynomials" = some (some (.ref f30)))
    (l30 : K.lookup f30 = some ⟨oc30, od30, .func (PySem.W.fnOf "polynomials" "polynomials" (defArgs s_polynomials) (defBody s_polynomials) (defScope s_polynomials) .none kV30 dc30 pm30 an30 cd30 ct30), sl30⟩)
    (c30 : PySem.W.codeIn K cd30 "polynomials" = true) (k30 : PySem.W.keepIn K (.ref f30) = true)
    (a31 : PySem.W.nsIn K mainGlobals "_terms" = some (some (.ref f31)))
    (l31 : K.lookup f31 = some ⟨oc31, od31, .func (PySem.W.fnOf "_terms" "_terms" (defArgs s_terms) (defBody s_terms) (defScope s_terms) .none kV31 dc31 pm31 an31 cd31 ct31), sl31⟩)
    (c31 : PySem.W.codeIn K cd31 "_terms" = true) (k31 : PySem.W.keepIn K (.ref f31) = true)
    (a32 : PySem.W.nsIn K mainGlobals "_degrees_of" = some (some (.ref f32)))
    (l32 : K.lookup f32 = some ⟨oc32, od32, .func (PySem.W.fnOf "_degrees_of" "_degrees_of" (defArgs s_degrees_of) (defBody s_degrees_of) (defScope s_degrees_of) .none kV32 dc32 pm32 an32 cd32 ct32), sl32⟩)
    (c32 : PySem.W.codeIn K cd32 "_degrees_of" = true) (k32 : PySem.W.keepIn K (.ref f32) = true)
    (a33 : PySem.W.nsIn K mainGlobals "_law_mixed" = some (some (.ref f33)))
    (l33 : K.lookup f33 = some ⟨oc33, od33, .func (PySem.W.fnOf "_law_mixed" "_law_mixed" (defArgs s_law_mixed) (defBody s_law_mixed) (defScope s_law_mixed) .none kV33 dc33 pm33 an33 cd33 ct33), sl33⟩)
    (c33 : PySem.W.codeIn K cd33 "_law_mixed" = true) (k33 : PySem.W.keepIn K (.ref f33) = true)
    (a34 : PySem.W.nsIn K mainGlobals "_law_numbers" = some (some (.ref f34)))
    (l34 : K.lookup f34 = some ⟨oc34, od34, .func (PySem.W.fnOf "_law_numbers" "_law_numbers" (defArgs s_law_numbers) (defBody s_law_numbers) (defScope s_law_numbers) .none kV34 dc34 pm34 an34 cd34 ct34), sl34⟩)
    (c34 : PySem.W.codeIn K cd34 "_law_numbers" = true) (k34 : PySem.W.keepIn K (.ref f34) = true)
    (a35 : PySem.W.nsIn K mainGlobals "_law_draw" = some (some (.ref f35)))
    (l35 : K.lookup f35 = some ⟨oc35, od35, .func (PySem.W.fnOf "_law_draw" "_law_draw" (defArgs s_law_draw) (defBody s_law_draw) (defScope s_law_draw) .none kV35 dc35 pm35 an35 cd35 ct35), sl35⟩)
    (c35 : PySem.W.codeIn K cd35 "_law_draw" = true) (k35 : PySem.W.keepIn K (.ref f35) = true)
    (a36 : PySem.W.nsIn K mainGlobals "_law_is_prime" = some (some (.ref f36)))
    (l36 : K.lookup f36 = some ⟨oc36, od36, .func (PySem.W.fnOf "_law_is_prime" "_law_is_prime" (defArgs s_law_is_prime) (defBody s_law_is_prime) (defScope s_law_is_prime) .none kV36 dc36 pm36 an36 cd36 ct36), sl36⟩)
    (c36 : PySem.W.codeIn K cd36 "_law_is_prime" = true) (k36 : PySem.W.keepIn K (.ref f36) = true)
    (a37 : PySem.W.nsIn K mainGlobals "_law_kind" = some (some (.ref f37)))
    (l37 : K.lookup f37 = some ⟨oc37, od37, .func (PySem.W.fnOf "_law_kind" "_law_kind" (defArgs s_law_kind) (defBody s_law_kind) (defScope s_law_kind) .none kV37 dc37 pm37 an37 cd37 ct37), sl37⟩)
    (c37 : PySem.W.codeIn K cd37 "_law_kind" = true) (k37 : PySem.W.keepIn K (.ref f37) = true)
    (a38 : PySem.W.nsIn K mainGlobals "_law_judged" = some (some (.ref f38)))
    (l38 : K.lookup f38 = some ⟨oc38, od38, .func (PySem.W.fnOf "_law_judged" "_law_judged" (defArgs s_law_judged) (defBody s_law_judged) (defScope s_law_judged) .none kV38 dc38 pm38 an38 cd38 ct38), sl38⟩)
    (c38 : PySem.W.codeIn K cd38 "_law_judged" = true) (k38 : PySem.W.keepIn K (.ref f38) = true)
    (a39 : PySem.W.nsIn K mainGlobals "_law_expanded" = some (some (.ref f39)))
    (l39 : K.lookup f39 = some ⟨oc39, od39, .func (PySem.W.fnOf "_law_expanded" "_law_expanded" (defArgs s_law_expanded) (defBody s_law_expanded) (defScope s_law_expanded) .none kV39 dc39 pm39 an39 cd39 ct39), sl39⟩)
    (c39 : PySem.W.codeIn K cd39 "_law_expanded" = true) (k39 : PySem.W.keepIn K (.ref f39) = true)
    (a40 : PySem.W.nsIn K mainGlobals "_law_size" = some (some (.ref f40)))
    (l40 : K.lookup f40 = some ⟨oc40, od40, .func (PySem.W.fnOf "_law_size" "_law_size" (defArgs s_law_size) (defBody s_law_size) (defScope s_law_size) .none kV40 dc40 pm40 an40 cd40 ct40), sl40⟩)
    (c40 : PySem.W.codeIn K cd40 "_law_size" = true) (k40 : PySem.W.keepIn K (.ref f40) = true)
    (a41 : PySem.W.nsIn K mainGlobals "law" = some (some (.ref f41)))
    (l41 : K.lookup f41 = some ⟨oc41, od41, .func (PySem.W.fnOf "law" "law" (defArgs s_law) (defBody s_law) (defScope s_law) .none kV41 dc41 pm41 an41 cd41 ct41), sl41⟩)
    (c41 : PySem.W.codeIn K cd41 "law" = true) (k41 : PySem.W.keepIn K (.ref f41) = true)
    (a42 : PySem.W.findIn K (.ref C_Program) "__init__" = some (some (.ref f42))) (i42 : PySem.W.isFn K (.ref f42) = true)
    (l42 : K.lookup f42 = some ⟨oc42, od42, .func (PySem.W.fnOf "__init__" "Program.__init__" (defArgs s_Program___init) (defBody s_Program___init) (defScope s_Program___init) .none kV42 dc42 pm42 an42 cd42 ct42), sl42⟩)
    (c42 : PySem.W.codeIn K cd42 "Program.__init__" = true) (k42 : PySem.W.keepIn K (.ref f42) = true)
    (n_Program_modulus : PySem.W.findIn K (.ref C_Program) "modulus" = some none)
    (n_Program_cells : PySem.W.findIn K (.ref C_Program) "cells" = some none)
    (n_Program_inputs : PySem.W.findIn K (.ref C_Program) "inputs" = some none)
    (n_Program_steps : PySem.W.findIn K (.ref C_Program) "steps" = some none)
    (ih_Program : PySem.W.findIn K (.ref C_Program) "__class__" = some (some (.builtin "object.__class__"))) (im_Program : PySem.W.mroIn K C_Program (.type "object") = some true) (it_Program : PySem.W.typeIn K (.ref C_Program) = some (.type "type")) (is_Program : PySem.W.subIn K (.ref C_Program) (.ref C_Program) = some true) (sf_Program : PySem.W.selfFirst K C_Program = true)
    (z_all : PySem.W.nsIn K mainGlobals "all" = some none)
    (z_any : PySem.W.nsIn K mainGlobals "any" = some none)
    (z_bool : PySem.W.nsIn K mainGlobals "bool" = some none)
    (z_enumerate : PySem.W.nsIn K mainGlobals "enumerate" = some none)
    (z_int : PySem.W.nsIn K mainGlobals "int" = some none)
    (z_isinstance : PySem.W.nsIn K mainGlobals "isinstance" = some none)
    (z_len : PySem.W.nsIn K mainGlobals "len" = some none)
    (z_list : PySem.W.nsIn K mainGlobals "list" = some none)
    (z_max : PySem.W.nsIn K mainGlobals "max" = some none)
    (z_min : PySem.W.nsIn K mainGlobals "min" = some none)
    (z_range : PySem.W.nsIn K mainGlobals "range" = some none)
    (z_sum : PySem.W.nsIn K mainGlobals "sum" = some none)
    (z_tuple : PySem.W.nsIn K mainGlobals "tuple" = some none)
    (z_zip : PySem.W.nsIn K mainGlobals "zip" = some none)
    (z_gcd : PySem.W.nsIn K mainGlobals "gcd" = some (some (.builtin "math.gcd")))
    (z_isqrt : PySem.W.nsIn K mainGlobals "isqrt" = some (some (.builtin "math.isqrt")))
    (z_GREATEST_EFFORT : PySem.W.nsIn K mainGlobals "GREATEST_EFFORT" = some (some (.int 400000 t_GREATEST_EFFORT)))
    (z_GREATEST_MODULUS : PySem.W.nsIn K mainGlobals "GREATEST_MODULUS" = some (some (.int 1000000000 t_GREATEST_MODULUS)))
    (z_MOST_CELLS : PySem.W.nsIn K mainGlobals "MOST_CELLS" = some (some (.int 60 t_MOST_CELLS)))
    (z_MOST_FACTORS : PySem.W.nsIn K mainGlobals "MOST_FACTORS" = some (some (.int 3 t_MOST_FACTORS)))
    (z_MOST_INPUTS : PySem.W.nsIn K mainGlobals "MOST_INPUTS" = some (some (.int 60 t_MOST_INPUTS)))
    (z_MOST_STEPS : PySem.W.nsIn K mainGlobals "MOST_STEPS" = some (some (.int 20000 t_MOST_STEPS)))
    : ∃ fd : FuncData, (∀ (s : Shared) (v : Value), BindsTo s fd ⟨[v], []⟩ [("script", v)]) ∧ ∀ base : Heap, K.In base → base.Ns mainGlobals mg → FnOk l.prog w K mg base CX0 9 fa fd ["script"] (sp_law K) := by
  have e := hfa.symm.trans (PySem.W.mg_of X G a41)
  cases e
  have F0 := fun_mk (st := s_is_below) l0 c0 k0
  have b0 := F0.binds (ps := ["value", "bound"]) fun _ _ _ _ _ _ us hl => match us, hl with | [_, _], _ => rfl
  have F1 := fun_mk (st := s_is_modulus) l1 c1 k1
  have b1 := F1.binds (ps := ["value"]) fun _ _ _ _ _ _ us hl => match us, hl with | [_], _ => rfl
  have F2 := fun_mk (st := s_is_prime) l2 c2 k2
  have b2 := F2.binds (ps := ["n"]) fun _ _ _ _ _ _ us hl => match us, hl with | [_], _ => rfl
  have F3 := fun_mk (st := s_inverse_of) l3 c3 k3
  have b3 := F3.binds (ps := ["n", "modulus"]) fun _ _ _ _ _ _ us hl => match us, hl with | [_, _], _ => rfl
  have F4 := fun_mk (st := s_interpolate) l4 c4 k4
  have b4 := F4.binds (ps := ["table", "prime", "x", "y"]) fun _ _ _ _ _ _ us hl => match us, hl with | [_, _, _, _], _ => rfl
  have F5 := fun_mk (st := s_weighted) l5 c5 k5
  have b5 := F5.binds (ps := ["row", "shares"]) fun _ _ _ _ _ _ us hl => match us, hl with | [_, _], _ => rfl
  have F6 := fun_mk (st := s_shares) l6 c6 k6
  have b6 := F6.binds (ps := ["size", "prime", "x"]) fun _ _ _ _ _ _ us hl => match us, hl with | [_, _, _], _ => rfl
  have F7 := fun_mk (st := s_products_of_differences) l7 c7 k7
  have b7 := F7.binds (ps := ["size", "prime"]) fun _ _ _ _ _ _ us hl => match us, hl with | [_, _], _ => rfl
  have F8 := fun_mk (st := s_grid_points) l8 c8 k8
  have b8 := F8.binds (ps := ["sizes"]) fun _ _ _ _ _ _ us hl => match us, hl with | [_], _ => rfl
  have F9 := fun_mk (st := s_coefficients) l9 c9 k9
  have b9 := F9.binds (ps := ["contents", "sizes", "prime"]) fun _ _ _ _ _ _ us hl => match us, hl with | [_, _, _], _ => rfl
  have F10 := fun_mk (st := s_combined) l10 c10 k10
  have b10 := F10.binds (ps := ["row", "column"]) fun _ _ _ _ _ _ us hl => match us, hl with | [_, _], _ => rfl
  have F11 := fun_mk (st := s_rows_for) l11 c11 k11
  have b11 := F11.binds (ps := ["size", "prime"]) fun _ _ _ _ _ _ us hl => match us, hl with | [_, _], _ => rfl
  have F12 := fun_mk (st := s_times) l12 c12 k12
  have b12 := F12.binds (ps := ["polynomial", "at", "prime"]) fun _ _ _ _ _ _ us hl => match us, hl with | [_, _, _], _ => rfl
  have F13 := fun_mk (st := s_divided) l13 c13 k13
  have b13 := F13.binds (ps := ["polynomial", "at", "prime"]) fun _ _ _ _ _ _ us hl => match us, hl with | [_, _, _], _ => rfl
  have F14 := fun_mk (st := s_is_step) l14 c14 k14
  have b14 := F14.binds (ps := ["step", "modulus", "cells", "inputs"]) fun _ _ _ _ _ _ us hl => match us, hl with | [_, _, _, _], _ => rfl
  have F15 := fun_mk (st := s_are_factors) l15 c15 k15
  have b15 := F15.binds (ps := ["factors", "target", "cells", "inputs"]) fun _ _ _ _ _ _ us hl => match us, hl with | [_, _, _, _], _ => rfl
  have F16 := fun_mk (st := s_is_factor) l16 c16 k16
  have b16 := F16.binds (ps := ["factor", "target", "cells", "inputs"]) fun _ _ _ _ _ _ us hl => match us, hl with | [_, _, _, _], _ => rfl
  have F17 := fun_mk (st := s_are_three_cells) l17 c17 k17
  have b17 := F17.binds (ps := ["target", "a", "b", "cells"]) fun _ _ _ _ _ _ us hl => match us, hl with | [_, _, _, _], _ => rfl
  have F18 := fun_mk (st := s_is_sign) l18 c18 k18
  have b18 := F18.binds (ps := ["sign", "modulus"]) fun _ _ _ _ _ _ us hl => match us, hl with | [_, _], _ => rfl
  have F19 := fun_mk (st := s_is_table) l19 c19 k19
  have b19 := F19.binds (ps := ["table", "modulus"]) fun _ _ _ _ _ _ us hl => match us, hl with | [_, _], _ => rfl
  have F20 := fun_mk (st := s_is_row) l20 c20 k20
  have b20 := F20.binds (ps := ["row", "size", "modulus"]) fun _ _ _ _ _ _ us hl => match us, hl with | [_, _, _], _ => rfl
  have F21 := fun_mk (st := s_changes) l21 c21 k21
  have b21 := F21.binds (ps := ["step", "memory", "given", "modulus"]) fun _ _ _ _ _ _ us hl => match us, hl with | [_, _, _, _], _ => rfl
  have F22 := fun_mk (st := s_performed) l22 c22 k22
  have b22 := F22.binds (ps := ["steps", "memory", "given", "modulus"]) fun _ _ _ _ _ _ us hl => match us, hl with | [_, _, _, _], _ => rfl
  have F23 := fun_mk (st := s_product_of) l23 c23 k23
  have b23 := F23.binds (ps := ["factors", "memory", "given", "modulus"]) fun _ _ _ _ _ _ us hl => match us, hl with | [_, _, _, _], _ => rfl
  have F24 := fun_mk (st := s_check_sizes) l24 c24 k24
  have b24 := F24.binds (ps := ["modulus", "cells", "inputs"]) fun _ _ _ _ _ _ us hl => match us, hl with | [_, _, _], _ => rfl
  have F25 := fun_mk (st := s_check_steps) l25 c25 k25
  have b25 := F25.binds (ps := ["steps", "modulus", "cells", "inputs"]) fun _ _ _ _ _ _ us hl => match us, hl with | [_, _, _, _], _ => rfl
  have F26 := fun_mk (st := s_judge) l26 c26 k26
  have b26 := F26.binds (ps := ["program", "target"]) fun _ _ _ _ _ _ us hl => match us, hl with | [_, _], _ => rfl
  have F27 := fun_mk (st := s_check_kind) l27 c27 k27
  have b27 := F27.binds (ps := ["program"]) fun _ _ _ _ _ _ us hl => match us, hl with | [_], _ => rfl
  have F28 := fun_mk (st := s_check_effort) l28 c28 k28
  have b28 := F28.binds (ps := ["program"]) fun _ _ _ _ _ _ us hl => match us, hl with | [_], _ => rfl
  have F29 := fun_mk (st := s_spoilt_cells) l29 c29 k29
  have b29 := F29.binds (ps := ["memory", "behind", "target"]) fun _ _ _ _ _ _ us hl => match us, hl with | [_, _, _], _ => rfl
  have F30 := fun_mk (st := s_polynomials) l30 c30 k30
  have b30 := F30.binds (ps := ["program"]) fun _ _ _ _ _ _ us hl => match us, hl with | [_], _ => rfl
  have F31 := fun_mk (st := s_terms) l31 c31 k31
  have b31 := F31.binds (ps := ["numbers", "sizes"]) fun _ _ _ _ _ _ us hl => match us, hl with | [_, _], _ => rfl
  have F32 := fun_mk (st := s_degrees_of) l32 c32 k32
  have b32 := F32.binds (ps := ["program"]) fun _ _ _ _ _ _ us hl => match us, hl with | [_], _ => rfl
  have F33 := fun_mk (st := s_law_mixed) l33 c33 k33
  have b33 := F33.binds (ps := ["number", "k"]) fun _ _ _ _ _ _ us hl => match us, hl with | [_, _], _ => rfl
  have F34 := fun_mk (st := s_law_numbers) l34 c34 k34
  have b34 := F34.binds (ps := ["script"]) fun _ _ _ _ _ _ us hl => match us, hl with | [_], _ => rfl
  have F35 := fun_mk (st := s_law_draw) l35 c35 k35
  have b35 := F35.binds (ps := ["draws"]) fun _ _ _ _ _ _ us hl => match us, hl with | [_], _ => rfl
  have F36 := fun_mk (st := s_law_is_prime) l36 c36 k36
  have b36 := F36.binds (ps := ["number"]) fun _ _ _ _ _ _ us hl => match us, hl with | [_], _ => rfl
  have F37 := fun_mk (st := s_law_kind) l37 c37 k37
  have b37 := F37.binds (ps := ["refused"]) fun _ _ _ _ _ _ us hl => match us, hl with | [_], _ => rfl
  have F38 := fun_mk (st := s_law_judged) l38 c38 k38
  have b38 := F38.binds (ps := ["program", "target"]) fun _ _ _ _ _ _ us hl => match us, hl with | [_, _], _ => rfl
  have F39 := fun_mk (st := s_law_expanded) l39 c39 k39
  have b39 := F39.binds (ps := ["program"]) fun _ _ _ _ _ _ us hl => match us, hl with | [_], _ => rfl
  have F40 := fun_mk (st := s_law_size) l40 c40 k40
  have b40 := F40.binds (ps := ["draws"]) fun _ _ _ _ _ _ us hl => match us, hl with | [_], _ => rfl
  have F41 := fun_mk (st := s_law) l41 c41 k41
  have b41 := F41.binds (ps := ["script"]) fun _ _ _ _ _ _ us hl => match us, hl with | [_], _ => rfl
  have F42 := fun_mk (st := s_Program___init) l42 c42 k42
  have b42 := F42.binds (ps := ["self", "modulus", "cells", "inputs", "steps"]) fun _ _ _ _ _ _ us hl => match us, hl with | [_, _, _, _, _], _ => rfl
  exact ⟨PySem.W.fnOf "law" "law" (defArgs s_law) (defBody s_law) (defScope s_law) .none kV41 dc41 pm41 an41 cd41 ct41, fun s v => .of_eq rfl, fun base _ _ => ok_law (⟨_, _, F0, b0, PySem.W.mg_of X G a0, _, _, F1, b1, PySem.W.mg_of X G a1, _, _, F2, b2, PySem.W.mg_of X G a2, _, _, F3, b3, PySem.W.mg_of X G a3, _, _, F4, b4, PySem.W.mg_of X G a4, _, _, F5, b5, PySem.W.mg_of X G a5, _, _, F6, b6, PySem.W.mg_of X G a6, _, _, F7, b7, PySem.W.mg_of X G a7, _, _, F8, b8, PySem.W.mg_of X G a8, _, _, F9, b9, PySem.W.mg_of X G a9, _, _, F10, b10, PySem.W.mg_of X G a10, _, _, F11, b11, PySem.W.mg_of X G a11, _, _, F12, b12, PySem.W.mg_of X G a12, _, _, F13, b13, PySem.W.mg_of X G a13, _, _, F14, b14, PySem.W.mg_of X G a14, _, _, F15, b15, PySem.W.mg_of X G a15, _, _, F16, b16, PySem.W.mg_of X G a16, _, _, F17, b17, PySem.W.mg_of X G a17, _, _, F18, b18, PySem.W.mg_of X G a18, _, _, F19, b19, PySem.W.mg_of X G a19, _, _, F20, b20, PySem.W.mg_of X G a20, _, _, F21, b21, PySem.W.mg_of X G a21, _, _, F22, b22, PySem.W.mg_of X G a22, _, _, F23, b23, PySem.W.mg_of X G a23, _, _, F24, b24, PySem.W.mg_of X G a24, _, _, F25, b25, PySem.W.mg_of X G a25, _, _, F26, b26, PySem.W.mg_of X G a26, _, _, F27, b27, PySem.W.mg_of X G a27, _, _, F28, b28, PySem.W.mg_of X G a28, _, _, F29, b29, PySem.W.mg_of X G a29, _, _, F30, b30, PySem.W.mg_of X G a30, _, _, F31, b31, PySem.W.mg_of X G a31, _, _, F32, b32, PySem.W.mg_of X G a32, _, _, F33, b33, PySem.W.mg_of X G a33, _, _, F34, b34, PySem.W.mg_of X G a34, _, _, F35, b35, PySem.W.mg_of X G a35, _, _, F36, b36, PySem.W.mg_of X G a36, _, _, F37, b37, PySem.W.mg_of X G a37, _, _, F38, b38, PySem.W.mg_of X G a38, _, _, F39, b39, PySem.W.mg_of X G a39, _, _, F40, b40, PySem.W.mg_of X G a40, _, _, F41, b41, PySem.W.mg_of X G a41, _, _, F42, b42, C_Program, ⟨pg_Program, hd_Program, po_Program, sa_Program⟩, PySem.W.mg_of X G aC_Program, n_Program_modulus, n_Program_cells, n_Program_inputs, n_Program_steps, ⟨⟨pg_Program, hd_Program, po_Program, sa_Program⟩, ih_Program, hnE, htE, im_Program, kit_ref hd_Program it_Program is_Program is_Program⟩, sf_Program, ⟨mk_Program, a42, i42, kc_Program⟩, E_BrimfulError, PySem.W.mg_of X G aE_BrimfulError, xE_BrimfulError, kE_BrimfulError, bE_BrimfulError, tE_BrimfulError, dE_BrimfulError, ⟨h1E_BrimfulError, h2E_BrimfulError, bE_BrimfulError, dE_BrimfulError, h3E_BrimfulError, hnE, htE, h4E_BrimfulError⟩, E_BadStep, PySem.W.mg_of X G aE_BadStep, xE_BadStep, kE_BadStep, bE_BadStep, tE_BadStep, dE_BadStep, ⟨h1E_BadStep, h2E_BadStep, bE_BadStep, dE_BadStep, h3E_BadStep, hnE, htE, h4E_BadStep⟩, E_BadMemory, PySem.W.mg_of X G aE_BadMemory, xE_BadMemory, kE_BadMemory, bE_BadMemory, tE_BadMemory, dE_BadMemory, ⟨h1E_BadMemory, h2E_BadMemory, bE_BadMemory, dE_BadMemory, h3E_BadMemory, hnE, htE, h4E_BadMemory⟩, E_TooLong, PySem.W.mg_of X G aE_TooLong, xE_TooLong, kE_TooLong, bE_TooLong, tE_TooLong, dE_TooLong, ⟨h1E_TooLong, h2E_TooLong, bE_TooLong, dE_TooLong, h3E_TooLong, hnE, htE, h4E_TooLong⟩, sE_BrimfulError_BrimfulError, sE_BrimfulError_BadStep, sE_BrimfulError_BadMemory, sE_BrimfulError_TooLong, sE_BadStep_BrimfulError, sE_BadStep_BadStep, sE_BadStep_BadMemory, sE_BadStep_TooLong, sE_BadMemory_BrimfulError, sE_BadMemory_BadStep, sE_BadMemory_BadMemory, sE_BadMemory_TooLong, sE_TooLong_BrimfulError, sE_TooLong_BadStep, sE_TooLong_BadMemory, sE_TooLong_TooLong, PySem.W.mg_none_of X G z_all, PySem.W.mg_none_of X G z_any, PySem.W.mg_none_of X G z_bool, PySem.W.mg_none_of X G z_enumerate, PySem.W.mg_none_of X G z_int, PySem.W.mg_none_of X G z_isinstance, PySem.W.mg_none_of X G z_len, PySem.W.mg_none_of X G z_list, PySem.W.mg_none_of X G z_max, PySem.W.mg_none_of X G z_min, PySem.W.mg_none_of X G z_range, PySem.W.mg_none_of X G z_sum, PySem.W.mg_none_of X G z_tuple, PySem.W.mg_none_of X G z_zip, PySem.W.mg_of X G z_gcd, PySem.W.mg_of X G z_isqrt, _, PySem.W.mg_of X G z_GREATEST_EFFORT, _, PySem.W.mg_of X G z_GREATEST_MODULUS, _, PySem.W.mg_of X G z_MOST_CELLS, _, PySem.W.mg_of X G z_MOST_FACTORS, _, PySem.W.mg_of X G z_MOST_INPUTS, _, PySem.W.mg_of X G z_MOST_STEPS⟩ : Txt K mg)⟩
end
end Br
open PySem PySem.W PyProof.Rows
set_option maxRecDepth 100000 in
set_option maxHeartbeats 0 in
theorem PySem.Challenge.cw_brimful_k46_programs_that_are_not_judged_holds : PySem.Challenge.rw_brimful_k46_programs_that_are_not_judged.Holds := by
  w_on; o_law; k_head; (case hw => w_witness2)
  k_fill
  refine L2.walk_of (l := PySem.Challenge.rw_brimful_k46_programs_that_are_not_judged) (n := 63) (k := 9) (x := "script") (CX := fun _ => L2.CX0) (sp := fun w => Br.sp_law _) rfl (by decide) rfl ⟨rfl, by decide, by decide⟩ (fun w h Y => PySem.W.kIn_of Y) ?F (fun _ _ a ns hl _ hS => ⟨a, ns, rfl, hS, hl, fun _ => rfl⟩) (fun _ _ _ _ _ h => h)
  case F =>
    intro w mg fa h KX G hmg
    refine' Br.all_mk KX G hmg ?aC_Program ?pg_Program ?hd_Program ?po_Program ?sa_Program ?mk_Program ?kc_Program ?hnE ?htE ?aE_BrimfulError ?xE_BrimfulError ?kE_BrimfulError ?bE_BrimfulError ?tE_BrimfulError ?dE_BrimfulError ?h1E_BrimfulError ?h2E_BrimfulError ?h3E_BrimfulError ?h4E_BrimfulError ?aE_BadStep ?xE_BadStep ?kE_BadStep ?bE_BadStep ?tE_BadStep ?dE_BadStep ?h1E_BadStep ?h2E_BadStep ?h3E_BadStep ?h4E_BadStep ?aE_BadMemory ?xE_BadMemory ?kE_BadMemory ?bE_BadMemory ?tE_BadMemory ?dE_BadMemory ?h1E_BadMemory ?h2E_BadMemory ?h3E_BadMemory ?h4E_BadMemory ?aE_TooLong ?xE_TooLong ?kE_TooLong ?bE_TooLong ?tE_TooLong ?dE_TooLong ?h1E_TooLong ?h2E_TooLong ?h3E_TooLong ?h4E_TooLong ?sE_BrimfulError_BrimfulError ?sE_BrimfulError_BadStep ?sE_BrimfulError_BadMemory ?sE_BrimfulError_TooLong ?sE_BadStep_BrimfulError ?sE_BadStep_BadStep ?sE_BadStep_BadMemory ?sE_BadStep_TooLong ?sE_BadMemory_BrimfulError ?sE_BadMemory_BadStep ?sE_BadMemory_BadMemory ?sE_BadMemory_TooLong ?sE_TooLong_BrimfulError ?sE_TooLong_BadStep ?sE_TooLong_BadMemory ?sE_TooLong_TooLong ?a0 ?l0 ?c0 ?k0 ?a1 ?l1 ?c1 ?k1 ?a2 ?l2 ?c2 ?k2 ?a3 ?l3 ?c3 ?k3 ?a4 ?l4 ?c4 ?k4 ?a5 ?l5 ?c5 ?k5 ?a6 ?l6 ?c6 ?k6 ?a7 ?l7 ?c7 ?k7 ?a8 ?l8 ?c8 ?k8 ?a9 ?l9 ?c9 ?k9 ?a10 ?l10 ?c10 ?k10 ?a11 ?l11 ?c11 ?k11 ?a12 ?l12 ?c12 ?k12 ?a13 ?l13 ?c13 ?k13 ?a14 ?l14 ?c14 ?k14 ?a15 ?l15 ?c15 ?k15 ?a16 ?l16 ?c16 ?k16 ?a17 ?l17 ?c17 ?k17 ?a18 ?l18 ?c18 ?k18 ?a19 ?l19 ?c19 ?k19 ?a20 ?l20 ?c20 ?k20 ?a21 ?l21 ?c21 ?k21 ?a22 ?l22 ?c22 ?k22 ?a23 ?l23 ?c23 ?k23 ?a24 ?l24 ?c24 ?k24 ?a25 ?l25 ?c25 ?k25 ?a26 ?l26 ?c26 ?k26 ?a27 ?l27 ?c27 ?k27 ?a28 ?l28 ?c28 ?k28 ?a29 ?l29 ?c29 ?k29 ?a30 ?l30 ?c30 ?k30 ?a31 ?l31 ?c31 ?k31 ?a32 ?l32 ?c32 ?k32 ?a33 ?l33 ?c33 ?k33 ?a34 ?l34 ?c34 ?k34 ?a35 ?l35 ?c35 ?k35 ?a36 ?l36 ?c36 ?k36 ?a37 ?l37 ?c37 ?k37 ?a38 ?l38 ?c38 ?k38 ?a39 ?l39 ?c39 ?k39 ?a40 ?l40 ?c40 ?k40 ?a41 ?l41 ?c41 ?k41 ?a42 ?i42 ?l42 ?c42 ?k42 ?n_Program_modulus ?n_Program_cells ?n_Program_inputs ?n_Program_steps ?ih_Program ?im_Program ?it_Program ?is_Program ?sf_Program ?z_all ?z_any ?z_bool ?z_enumerate ?z_int ?z_isinstance ?z_len ?z_list ?z_max ?z_min ?z_range ?z_sum ?z_tuple ?z_zip ?z_gcd ?z_isqrt ?z_GREATEST_EFFORT ?z_GREATEST_MODULUS ?z_MOST_CELLS ?z_MOST_FACTORS ?z_MOST_INPUTS ?z_MOST_STEPS
    (case aC_Program => k_is)
    (case pg_Program => k_is)
    (case hd_Program => k_is)
    (case po_Program => k_is)
    (case sa_Program => k_is)
    (case mk_Program => k_is)
    (case kc_Program => k_is)
    (case hnE => k_is)
    (case htE => k_is)
    (case aE_BrimfulError => k_is)
    (case xE_BrimfulError => k_exc)
    (case kE_BrimfulError => k_is)
    (case bE_BrimfulError => k_is)
    (case tE_BrimfulError => k_is)
    (case dE_BrimfulError => k_is)
    (case h1E_BrimfulError => k_is)
    (case h2E_BrimfulError => k_is)
    (case h3E_BrimfulError => k_is)
    (case h4E_BrimfulError => k_is)
    (case aE_BadStep => k_is)
    (case xE_BadStep => k_exc)
    (case kE_BadStep => k_is)
    (case bE_BadStep => k_is)
    (case tE_BadStep => k_is)
    (case dE_BadStep => k_is)
    (case h1E_BadStep => k_is)
    (case h2E_BadStep => k_is)
    (case h3E_BadStep => k_is)
    (case h4E_BadStep => k_is)
    (case aE_BadMemory => k_is)
    (case xE_BadMemory => k_exc)
    (case kE_BadMemory => k_is)
    (case bE_BadMemory => k_is)
    (case tE_BadMemory => k_is)
    (case dE_BadMemory => k_is)
    (case h1E_BadMemory => k_is)
    (case h2E_BadMemory => k_is)
    (case h3E_BadMemory => k_is)
    (case h4E_BadMemory => k_is)
    (case aE_TooLong => k_is)
    (case xE_TooLong => k_exc)
    (case kE_TooLong => k_is)
    (case bE_TooLong => k_is)
    (case tE_TooLong => k_is)
    (case dE_TooLong => k_is)
    (case h1E_TooLong => k_is)
    (case h2E_TooLong => k_is)
    (case h3E_TooLong => k_is)
    (case h4E_TooLong => k_is)
    (case sE_BrimfulError_BrimfulError => first | rfl | k_is)
    (case sE_BrimfulError_BadStep => first | rfl | k_is)
    (case sE_BrimfulError_BadMemory => first | rfl | k_is)
    (case sE_BrimfulError_TooLong => first | rfl | k_is)
    (case sE_BadStep_BrimfulError => first | rfl | k_is)
    (case sE_BadStep_BadStep => first | rfl | k_is)
    (case sE_BadStep_BadMemory => first | rfl | k_is)
    (case sE_BadStep_TooLong => first | rfl | k_is)
    (case sE_BadMemory_BrimfulError => first | rfl | k_is)
    (case sE_BadMemory_BadStep => first | rfl | k_is)
    (case sE_BadMemory_BadMemory => first | rfl | k_is)
    (case sE_BadMemory_TooLong => first | rfl | k_is)
    (case sE_TooLong_BrimfulError => first | rfl | k_is)
    (case sE_TooLong_BadStep => first | rfl | k_is)
    (case sE_TooLong_BadMemory => first | rfl | k_is)
    (case sE_TooLong_TooLong => first | rfl | k_is)
    (case a0 => k_is)
    (case l0 => k_is)
    (case c0 => k_is)
    (case k0 => k_is)
    (case a1 => k_is)
    (case l1 => k_is)
    (case c1 => k_is)
    (case k1 => k_is)
    (case a2 => k_is)
    (case l2 => k_is)
    (case c2 => k_is)
    (case k2 => k_is)
    (case a3 => k_is)
    (case l3 => k_is)
    (case c3 => k_is)
    (case k3 => k_is)
    (case a4 => k_is)
    (case l4 => k_is)
    (case c4 => k_is)
    (case k4 => k_is)
    (case a5 => k_is)
    (case l5 => k_is)
    (case c5 => k_is)
    (case k5 => k_is)
    (case a6 => k_is)
    (case l6 => k_is)
    (case c6 => k_is)
    (case k6 => k_is)
    (case a7 => k_is)
    (case l7 => k_is)
    (case c7 => k_is)
    (case k7 => k_is)
    (case a8 => k_is)
    (case l8 => k_is)
    (case c8 => k_is)
    (case k8 => k_is)
    (case a9 => k_is)
    (case l9 => k_is)
    (case c9 => k_is)
    (case k9 => k_is)
    (case a10 => k_is)
    (case l10 => k_is)
    (case c10 => k_is)
    (case k10 => k_is)
    (case a11 => k_is)
    (case l11 => k_is)
    (case c11 => k_is)
    (case k11 => k_is)
    (case a12 => k_is)
    (case l12 => k_is)
    (case c12 => k_is)
    (case k12 => k_is)
    (case a13 => k_is)
    (case l13 => k_is)
    (case c13 => k_is)
    (case k13 => k_is)
    (case a14 => k_is)
    (case l14 => k_is)
    (case c14 => k_is)
    (case k14 => k_is)
    (case a15 => k_is)
    (case l15 => k_is)
    (case c15 => k_is)
    (case k15 => k_is)
    (case a16 => k_is)
    (case l16 => k_is)
    (case c16 => k_is)
    (case k16 => k_is)
    (case a17 => k_is)
    (case l17 => k_is)
    (case c17 => k_is)
    (case k17 => k_is)
    (case a18 => k_is)
    (case l18 => k_is)
    (case c18 => k_is)
    (case k18 => k_is)
    (case a19 => k_is)
    (case l19 => k_is)
    (case c19 => k_is)
    (case k19 => k_is)
    (case a20 => k_is)
    (case l20 => k_is)
    (case c20 => k_is)
    (case k20 => k_is)
    (case a21 => k_is)
    (case l21 => k_is)
    (case c21 => k_is)
    (case k21 => k_is)
    (case a22 => k_is)
    (case l22 => k_is)
    (case c22 => k_is)
    (case k22 => k_is)
    (case a23 => k_is)
    (case l23 => k_is)
    (case c23 => k_is)
    (case k23 => k_is)
    (case a24 => k_is)
    (case l24 => k_is)
    (case c24 => k_is)
    (case k24 => k_is)
    (case a25 => k_is)
    (case l25 => k_is)
    (case c25 => k_is)
    (case k25 => k_is)
    (case a26 => k_is)
    (case l26 => k_is)
    (case c26 => k_is)
    (case k26 => k_is)
    (case a27 => k_is)
    (case l27 => k_is)
    (case c27 => k_is)
    (case k27 => k_is)
    (case a28 => k_is)
    (case l28 => k_is)
    (case c28 => k_is)
    (case k28 => k_is)
    (case a29 => k_is)
    (case l29 => k_is)
    (case c29 => k_is)
    (case k29 => k_is)
    (case a30 => k_is)
    (case l30 => k_is)
    (case c30 => k_is)
    (case k30 => k_is)
    (case a31 => k_is)
    (case l31 => k_is)
    (case c31 => k_is)
    (case k31 => k_is)
    (case a32 => k_is)
    (case l32 => k_is)
    (case c32 => k_is)
    (case k32 => k_is)
    (case a33 => k_is)
    (case l33 => k_is)
    (case c33 => k_is)
    (case k33 => k_is)
    (case a34 => k_is)
    (case l34 => k_is)
    (case c34 => k_is)
    (case k34 => k_is)
    (case a35 => k_is)
    (case l35 => k_is)
    (case c35 => k_is)
    (case k35 => k_is)
    (case a36 => k_is)
    (case l36 => k_is)
    (case c36 => k_is)
    (case k36 => k_is)
    (case a37 => k_is)
    (case l37 => k_is)
    (case c37 => k_is)
    (case k37 => k_is)
    (case a38 => k_is)
    (case l38 => k_is)
    (case c38 => k_is)
    (case k38 => k_is)
    (case a39 => k_is)
    (case l39 => k_is)
    (case c39 => k_is)
    (case k39 => k_is)
    (case a40 => k_is)
    (case l40 => k_is)
    (case c40 => k_is)
    (case k40 => k_is)
    (case a41 => k_is)
    (case l41 => k_is)
    (case c41 => k_is)
    (case k41 => k_is)
    (case a42 => k_is)
    (case i42 => k_is)
    (case l42 => k_is)
    (case c42 => k_is)
    (case k42 => k_is)
    (case n_Program_modulus => k_is)
    (case n_Program_cells => k_is)
    (case n_Program_inputs => k_is)
    (case n_Program_steps => k_is)
    (case ih_Program => k_is)
    (case im_Program => k_is)
    (case it_Program => k_is)
    (case is_Program => k_is)
    (case sf_Program => k_is)
    (case z_all => k_is)
    (case z_any => k_is)
    (case z_bool => k_is)
    (case z_enumerate => k_is)
    (case z_int => k_is)
    (case z_isinstance => k_is)
    (case z_len => k_is)
    (case z_list => k_is)
    (case z_max => k_is)
    (case z_min => k_is)
    (case z_range => k_is)
    (case z_sum => k_is)
    (case z_tuple => k_is)
    (case z_zip => k_is)
    (case z_gcd => k_is)
    (case z_isqrt => k_is)
    (case z_GREATEST_EFFORT => k_is)
    (case z_GREATEST_MODULUS => k_is)
    (case z_MOST_CELLS => k_is)
    (case z_MOST_FACTORS => k_is)
    (case z_MOST_INPUTS => k_is)
    (case z_MOST_STEPS => k_is)
