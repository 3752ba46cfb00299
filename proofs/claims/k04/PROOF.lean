import PyProof.Rows.All
import Wide.All
import OpenK.AllK
import Wide.FinOn
import HandS.ForMost
import HandS.Gcd
import HandS.Wide
import HandS.IsInst
import HandS.Steps
import HandS.SortKw
import HandS.Style
import HandS.Star
import HandS.SetFor
import HandS.TupAny
import PyProof.SetRoads
import PyProof.Rows.SetFrom
import KE.DataMinMax
import HandS.Evl
import HandS.Walk
import HandS.ForExc
import HandS.ExcIs
import HandS.RaiseMore
import HandS.Codes
import HandS.Flt
import HandS.FStr
import KE.GoesEnum
import PyProof.Rows.MatchSeqLen
import Flt.RightSqrt
import HandS.Strs
import HandS.Property
import HandS.More
import HandS.GenList
import PyProof.GenObj
import HandS.StrMore
import HandS.TryOnly
import HandS.TryMany
import KE.KUnpackStar
import KE.KTryMore
import PySem.Challenge.RW_brimful_k04_programs_are_checked
set_option Elab.async false
set_option linter.all false
set_option maxRecDepth 100000
set_option maxHeartbeats 4000000

namespace Br
open PySem PySem.Spec PyProof.Rows L2

/-! ### readings with names -/
def rLen (K : PySem.W.Frag) : List V → Hp → VK → Prop := fun xs H Q => ∃ p ys, xs = [.ref p] ∧ (SqL K H p ys ∨ SqT K H p ys) ∧ Q (.int ys.length) H
theorem cr_len {X : Cx} : CallR X (.builtin "len") (rLen X.K) := call_len_seq
def rInt1 : List V → Hp → VK → Prop := fun xs H Q => (∃ i, xs = [.int i] ∧ Q (.int i) H) ∨ ∃ k, xs = [.bl k] ∧ Q (.int (if k then 1 else 0)) H
theorem cr_int1 {X : Cx} : CallR X (.type "int") rInt1 := call_int1
def rMin2 : List V → Hp → VK → Prop := fun xs H Q => ∃ i j, xs = [.int i, .int j] ∧ Q (.int (if j < i then j else i)) H
theorem cr_min2 {X : Cx} (hc : X.calm = true) : CallR X (.builtin "min") rMin2 := call_min2 hc
def rMax2 : List V → Hp → VK → Prop := fun xs H Q => ∃ i j, xs = [.int i, .int j] ∧ Q (.int (if j > i then j else i)) H
theorem cr_max2 {X : Cx} (hc : X.calm = true) : CallR X (.builtin "max") rMax2 := call_max2 hc
def rListOf (K : PySem.W.Frag) : List V → Hp → VK → Prop := fun xs H Q => ∃ p ys, xs = [.ref p] ∧ (SqL K H p ys ∨ SqT K H p ys) ∧ ∀ l, H l = none → Q (.ref l) (upd H l (.lst ys))
theorem cr_list_of {X : Cx} : CallR X (.type "list") (rListOf X.K) := call_list_of
def rTupOf (K : PySem.W.Frag) : List V → Hp → VK → Prop := fun xs H Q => ∃ p ys, xs = [.ref p] ∧ ((SqL K H p ys ∧ ∀ l, H l = none → Q (.ref l) (upd H l (.tup ys))) ∨ (SqT K H p ys ∧ Q (.ref p) H))
theorem cr_tup_of {X : Cx} : CallR X (.type "tuple") (rTupOf X.K) := call_tuple_of
def cr_isqrt_r : List V → Hp → VK → Prop := fun vs H Q => ∃ i : Int, vs = [.int i] ∧ 0 ≤ i ∧ i < 2 ^ 64 ∧ Q (.int ((Float64.isqrt i.toNat : Nat) : Int)) H
/-! ### steps of a reading -/
section
variable {σ : L2.St} {H : Hp} {D : Ends} {Q : VK} {QT : Bool → Hp → Prop} {QA : List V → Hp → Prop} {K : PySem.W.Frag}
theorem x_seq {a u : TS} (h : a ⟨u D, D.rt, D.bk, D.ct⟩ σ H) : tSeq a u D σ H := h
theorem x_cut {a u : TS} (M : L2.St → Hp → Prop) (h : a ⟨M, D.rt, D.bk, D.ct⟩ σ H) (k : ∀ σ' H', M σ' H' → u D σ' H') : Evl.tCut a u D σ H := ⟨M, h, k⟩
theorem x_next (h : D.nx σ H) : tNext D σ H := h
theorem x_set {te : TE} {i : Nat} (h : te σ H fun x H1 => D.nx (σ.set i (some x)) H1) : tAsg te (gName i) D σ H := h
theorem x_asg {te : TE} {g : TG} (h : te σ H fun x H1 => g x σ H1 D.nx) : tAsg te g D σ H := h
/-- what a field's reading asks of the object -/
def FldR (K : PySem.W.Frag) (f : Str) (x : V) (H : Hp) (Q : VK) : Prop := ∃ a C dx fs v, x = .ref a ∧ H a = some (.ins C dx fs) ∧ Cls K C ∧ NoAttr K C f ∧ fs.lookup f = some v ∧ Q v H
theorem x_fld {ta : TE} {f : Str} (h : ta σ H fun x H1 => FldR K f x H1 Q) : tFld K ta f σ H Q := h
theorem x_fldR {a C dx : Addr} {fs : List (Str × V)} {f : Str} {v : V} (h : H a = some (.ins C dx fs)) (c : Cls K C) (n : NoAttr K C f) (l : fs.lookup f = some v) (q : Q v H) : FldR K f (.ref a) H Q := ⟨a, C, dx, fs, v, rfl, h, c, n, l, q⟩
/-- what storing a field asks -/
def FldS (K : PySem.W.Frag) (f : Str) (y x : V) (H : Hp) (R : Hp → Prop) : Prop := ∃ a C dx fs, x = .ref a ∧ H a = some (.ins C dx fs) ∧ Cls K C ∧ NoAttr K C f ∧ fs.length < 1000 ∧ R (upd H a (.ins C dx (putF f y fs)))
theorem x_fldS {ta tv : TE} {f : Str} (h : tv σ H fun y H1 => ta σ H1 fun x H2 => FldS K f y x H2 fun H3 => D.nx σ H3) : sFld K ta tv f D σ H := h
theorem x_gName {i : Nat} {v : V} {R : L2.St → Hp → Prop} (h : R (σ.set i (some v)) H) : gName i v σ H R := h
theorem x_par {i j : Nat} {ta tb : TE} (h : ta σ H fun x H1 => tb σ H1 fun y H2 => D.nx ((σ.set i (some x)).set j (some y)) H2) : tPar i j (tCons ta (tCons tb tNil)) D σ H :=
  (congrArg (fun (f : (V → Hp → Prop)) => ta σ H f) (funext fun x => funext fun H1 => congrArg (fun (f : (V → Hp → Prop)) => tb σ H1 f) (funext fun y => funext fun H2 => propext
    ⟨fun h => ⟨x, y, rfl, h⟩, fun ⟨v, w, e, h⟩ => by cases e; exact h⟩))).mp h
theorem x_ret {te : TE} (h : te σ H D.rt) : tRet te D σ H := h
theorem x_retN (h : D.rt .non H) : tRetN D σ H := h
theorem x_drop {te : TE} (h : te σ H fun _ H1 => D.nx σ H1) : tDrop te D σ H := h
theorem x_if {c : TT} {t u : TS} (h : c σ H fun b H1 => if b = true then t D σ H1 else u D σ H1) : tIfS c t u D σ H := h
theorem x_brk (h : D.bk σ H) : tBreak D σ H := h
theorem x_cont (h : D.ct σ H) : tCont D σ H := h
theorem x_var {i : Nat} {v : V} (h : σ[i]? = some (some v)) (q : Q v H) : tVar i σ H Q := ⟨v, h, q⟩
theorem x_c {v : V} (q : Q v H) : tC v σ H Q := q
theorem x_op {r : R2} {ta tb : TE} (h : ta σ H fun x H1 => tb σ H1 fun y H2 => r x y H2 Q) : tOp r ta tb σ H Q := h
theorem x_un {r : V → Hp → VK → Prop} {ta : TE} (h : ta σ H fun x H1 => r x H1 Q) : tUn r ta σ H Q := h
theorem x_I0 {g : Int → Int → V} {i j : Int} (q : Q (g i j) H) : rI0 g (.int i) (.int j) H Q := ⟨i, j, rfl, rfl, q⟩
theorem x_I {C : Int → Int → Prop} {g : Int → Int → V} {i j : Int} (c : C i j) (q : Q (g i j) H) : rI C g (.int i) (.int j) H Q := ⟨i, j, rfl, rfl, c, q⟩
theorem x_U {g : Int → V} {i : Int} (q : Q (g i) H) : rU g (.int i) H Q := ⟨i, rfl, q⟩
theorem v_int {i j : Int} : decide (V.int i = V.int j) = decide (i = j) := decide_eq_decide.mpr ⟨fun h => V.int.inj h, fun h => h ▸ rfl⟩
theorem x_EqI {i j : Int} (q : Q (.bl (decide (i = j))) H) : rEq (.int i) (.int j) H Q := ⟨rfl, v_int ▸ q⟩
theorem x_NeI {i j : Int} (q : Q (.bl (!decide (i = j))) H) : rNe (.int i) (.int j) H Q := ⟨rfl, by rw [v_int]; exact q⟩
theorem x_EqB {i j : Bool} (q : Q (.bl (decide (i = j))) H) : rEq (.bl i) (.bl j) H Q := ⟨rfl, by
  have e : decide (V.bl i = V.bl j) = decide (i = j) := decide_eq_decide.mpr ⟨fun h => V.bl.inj h, fun h => h ▸ rfl⟩
  rw [e]; exact q⟩
theorem x_Eq {x y : V} (s : scal x y = true) (q : Q (.bl (decide (x = y))) H) : rEq x y H Q := ⟨s, q⟩
theorem x_Ne {x y : V} (s : scal x y = true) (q : Q (.bl (!decide (x = y))) H) : rNe x y H Q := ⟨s, q⟩
theorem x_isN {x : V} (q : Q (.bl (decide (x = .non))) H) : (fun (x y : V) (H : Hp) (Q : VK) => y = V.non ∧ Q (.bl (decide (x = .non))) H) x .non H Q := ⟨rfl, q⟩
theorem x_ifE {t : TT} {ta tb : TE} (h : t σ H fun c H1 => if c = true then ta σ H1 Q else tb σ H1 Q) : tIf t ta tb σ H Q := h
theorem x_test {te : TE} {b : Unit} (h : te σ H fun x H1 => ∃ k, x = .bl k ∧ QT k H1) : tTest te σ H QT := h
theorem x_tB {te : TE} (h : te σ H fun x H1 => ∃ k, x = .bl k ∧ QT k H1) : tB te σ H QT := h
theorem x_bl {k : Bool} (q : QT k H) : ∃ k', V.bl k = .bl k' ∧ QT k' H := ⟨k, rfl, q⟩
theorem x_and {t u : TT} (h : t σ H fun c H1 => if c = true then u σ H1 QT else QT false H1) : tAnd t u σ H QT := h
theorem x_or {t u : TT} (h : t σ H fun c H1 => if c = true then QT true H1 else u σ H1 QT) : tOr t u σ H QT := h
theorem x_not {t : TT} (h : t σ H fun c H1 => QT (!c) H1) : tNot t σ H QT := h
theorem x_andV {ta tb : TE} (h : ta σ H fun x H1 => ∃ c, x = .bl c ∧ if c = true then tb σ H1 Q else Q (.bl false) H1) : tAndV ta tb σ H Q := h
theorem x_orV {ta tb : TE} (h : ta σ H fun x H1 => ∃ c, x = .bl c ∧ if c = true then Q (.bl true) H1 else tb σ H1 Q) : tOrV ta tb σ H Q := h
theorem x_notV {ta : TE} (h : ta σ H fun x H1 => ∃ c, x = .bl c ∧ Q (.bl (!c)) H1) : tNotV ta σ H Q := h
theorem x_blP {k : Bool} {P : Bool → Prop} (q : P k) : ∃ k', V.bl k = .bl k' ∧ P k' := ⟨k, rfl, q⟩
theorem x_nil (q : QA [] H) : tNil σ H QA := q
theorem x_cons {ta : TE} {tr : TA} (h : ta σ H fun x H1 => tr σ H1 fun xs H2 => QA (x :: xs) H2) : tCons ta tr σ H QA := h
theorem x_call {sp : Sp} {dvs : List V} {E : XK} {t : TA} (h : t σ H fun vs H1 => sp (vs ++ dvs) H1 Q E) : tCall sp dvs E t σ H Q := h
theorem x_CB {r : List V → Hp → VK → Prop} {t : TA} (h : t σ H fun vs H1 => r vs H1 Q) : tCB r t σ H Q := h
theorem x_BM {T : String} {r : V → List V → Hp → VK → Prop} {to : TE} {t : TA} (h : to σ H fun x H1 => tyV K T x H1 ∧ t σ H1 fun xs H2 => r x xs H2 Q) : tBM K T r to t σ H Q := h
theorem x_tup {t : TA} (h : t σ H fun xs H1 => xs.length ≤ sizeLine ∧ ∀ p, H1 p = none → Q (.ref p) (upd H1 p (.tup xs))) : tTup t σ H Q := h
theorem x_lst {t : TA} (h : t σ H fun xs H1 => xs.length ≤ sizeLine ∧ ∀ p, H1 p = none → Q (.ref p) (upd H1 p (.lst xs))) : tLst t σ H Q := h
theorem x_chain {r r' : R2} {ta tb tc : TE} (h : ta σ H fun x H1 => tb σ H1 fun y H2 => r x y H2 fun z H3 => ∃ k, z = .bl k ∧
  (if k = true then tc σ H3 fun w' H4 => r' y w' H4 Q else Q (.bl false) H3)) : tChain r r' ta tb tc σ H Q := h
theorem x_isi {x : V} {T S : String} {b : Bool} (ty : TyX K H x (.type S)) (h : kitB S T = some b) (q : Q (.bl b) H) : rIsi K [x, .ty T] H Q := ⟨x, .ty T, .type S, .type T, b, rfl, .ty T, ty, kit_ty h, q⟩
theorem x_iN {x : V} (q : Q (.bl (decide (x = .non))) H) : rIsN x .non H Q := ⟨rfl, q⟩
theorem x_nN {x : V} (q : Q (.bl (!decide (x = .non))) H) : rNotN x .non H Q := ⟨rfl, q⟩
theorem x_int1 {i : Int} (q : Q (.int i) H) : rInt1 [.int i] H Q := .inl ⟨i, rfl, q⟩
theorem x_min2 {i j : Int} (q : Q (.int (if j < i then j else i)) H) : rMin2 [.int i, .int j] H Q := ⟨i, j, rfl, q⟩
theorem x_max2 {i j : Int} (q : Q (.int (if j > i then j else i)) H) : rMax2 [.int i, .int j] H Q := ⟨i, j, rfl, q⟩
theorem x_listL {p : Addr} {xs : List V} (hp : SqL K H p xs) (q : ∀ l, H l = none → Q (.ref l) (upd H l (.lst xs))) : rListOf K [.ref p] H Q := ⟨p, xs, rfl, .inl hp, q⟩
theorem x_tupL {p : Addr} {xs : List V} (hp : SqL K H p xs) (q : ∀ l, H l = none → Q (.ref l) (upd H l (.tup xs))) : rTupOf K [.ref p] H Q := ⟨p, xs, rfl, .inl ⟨hp, q⟩⟩
theorem x_ite {p : Prop} [Decidable p] {A B : Prop} (h1 : p → A) (h2 : ¬ p → B) : if decide p = true then A else B := by
  by_cases h : p
  · rw [if_pos (decide_eq_true h)]; exact h1 h
  · rw [if_neg (by rw [decide_eq_false h]; exact Bool.false_ne_true)]; exact h2 h
theorem x_iteN {p : Prop} [Decidable p] {A B : Prop} (h1 : ¬ p → A) (h2 : p → B) : if (!decide p) = true then A else B := by
  by_cases h : p
  · rw [if_neg (by rw [decide_eq_true h]; decide)]; exact h2 h
  · rw [if_pos (by rw [decide_eq_false h]; rfl)]; exact h1 h
theorem x_iteB {b : Bool} {A B : Prop} (h1 : b = true → A) (h2 : b = false → B) : if b = true then A else B := by
  cases b with
  | true => rw [if_pos rfl]; exact h1 rfl
  | false => rw [if_neg Bool.false_ne_true]; exact h2 rfl
theorem x_iteBN {b : Bool} {A B : Prop} (h1 : b = false → A) (h2 : b = true → B) : if (!b) = true then A else B := by
  cases b with
  | true => rw [if_neg (by decide)]; exact h2 rfl
  | false => rw [if_pos (by decide)]; exact h1 rfl
theorem x_subL {i : Int} {x : V} {xs : List V} {p : Addr} {k : Nat} {q : Hp → Prop} (hp : H p = some (.lst xs)) (hk : ixN xs.length i = some k) (h : q (upd H p (.lst (xs.set k x)))) : rSetL (.ref p) (.int i) x H q :=
  ⟨p, xs, i, k, rfl, rfl, hp, hk, h⟩
theorem x_gSub {to ti : TE} {t : TSet} {v : V} {q : L2.St → Hp → Prop} (h : to σ H fun o H1 => ti σ H1 fun i H2 => t o i v H2 fun H3 => q σ H3) : gSub to ti t v σ H q := h
theorem x_for {wi : TI} {g : TG} {tb : TS} (h : wi σ H fun J H1 => ∃ W : Nat → Nat → L2.St → Hp → Prop, (∃ m, W 0 m σ H1) ∧ ∀ i m σ H, W i m σ H →
  (J.stop i H ∧ D.nx σ H) ∨ (J.go i H ∧ ∃ N : L2.St → Hp → Prop, (∀ σ' H', N σ' H' → ∃ m', m' < m ∧ W (i + 1) m' σ' H') ∧ ∀ x H', J.yld i H x H' → g x σ H' fun σ2 H2 => tb { D with nx := N, ct := N, bk := D.nx } σ2 H2)) : tFor wi g tb D σ H := h
theorem x_ixL {xs : List V} {i : Int} {v : V} {p : Addr} (hp : SqL K H p xs) (hi : atI xs i = some v) (q : Q v H) : rIxL K (.ref p) (.int i) H Q := ⟨p, xs, i, v, rfl, rfl, hp, hi, q⟩
theorem x_ixT {xs : List V} {i : Int} {v : V} {p : Addr} (hp : SqT K H p xs) (hi : atI xs i = some v) (q : Q v H) : rIxT K (.ref p) (.int i) H Q := ⟨p, xs, i, v, rfl, rfl, hp, hi, q⟩
/-- over a range from nought, of at most so many turns; the target a name -/
theorem x_forR1 {ta : TE} {j : Nat} {tb : TS} (n : Int) (P : Nat → L2.St → Hp → Prop) (hn : ∀ R : V → Hp → Prop, R (.int n) H → ta σ H R) (h1 : -(2 ^ 62) ≤ n) (h2 : n < 2 ^ 62) (h0 : P 0 σ H)
    (hs : ∀ (i : Nat) σ' H', (i : Int) < n → P i σ' H' → tb ⟨P (i + 1), D.rt, D.nx, P (i + 1)⟩ (σ'.set j (some (.int (i : Int)))) H') (hd : ∀ σ' H', P n.toNat σ' H' → D.nx σ' H') : tFor (iRng1 (tCons ta tNil)) (gName j) tb D σ H := by
  refine hn _ ⟨n, rfl, h1, h2, ?_⟩
  refine for_range (lo := 0) P h0 (fun i σ' H' hi p => ?_) hd
  have e : (0 : Int) + (i : Int) = (i : Int) := Int.zero_add _
  rw [e]
  exact hs i σ' H' (by omega) p
theorem x_forR2 {ta tc : TE} {j : Nat} {tb : TS} (lo n : Int) (P : Nat → L2.St → Hp → Prop) (hn : ∀ R : V → Hp → Prop, R (.int lo) H → ta σ H R) (hn2 : ∀ R : V → Hp → Prop, R (.int n) H → tc σ H R) (h1 : -(2 ^ 62) ≤ lo) (h2 : lo < 2 ^ 62) (h3 : -(2 ^ 62) ≤ n) (h4 : n < 2 ^ 62) (h0 : P 0 σ H)
    (hs : ∀ (i : Nat) σ' H', lo + (i : Int) < n → P i σ' H' → tb ⟨P (i + 1), D.rt, D.nx, P (i + 1)⟩ (σ'.set j (some (.int (lo + (i : Int))))) H') (hd : ∀ σ' H', P (n - lo).toNat σ' H' → D.nx σ' H') : tFor (iRng2 (tCons ta (tCons tc tNil))) (gName j) tb D σ H := by
  refine hn _ (hn2 _ ⟨lo, n, rfl, ⟨h1, h2, h3, h4⟩, ?_⟩)
  refine for_range (lo := lo) P h0 (fun i σ' H' hi p => ?_) hd
  exact hs i σ' H' (by omega) p
theorem rgC_up {i j c : Int} (hc : 0 < c) (hc2 : c < 1000000) (ha : 0 ≤ i) (ha' : i < 2 ^ 60) (hb : 0 ≤ j) (hb' : j < 2 ^ 60) : RgC i j c ((if i < j then (j - i - 1) / c + 1 else 0 : Int)).toNat := by
  have hd : 0 ≤ (j - i - 1) / c ∨ ¬ i < j := by
    by_cases h : i < j
    · exact .inl (Int.ediv_nonneg (by omega) (by omega))
    · exact .inr h
  have hd2 : i < j → (j - i - 1) / c * c ≤ j - i - 1 := fun _ => Int.ediv_mul_le _ (by omega)
  have hd3 : i < j → (j - i - 1) / c ≤ j - i - 1 := fun h => by
    have h0 : 0 ≤ (j - i - 1) / c := Int.ediv_nonneg (by omega) (by omega)
    have := hd2 h
    have h1 : (j - i - 1) / c * 1 ≤ (j - i - 1) / c * c := Int.mul_le_mul_of_nonneg_left (by omega) h0
    omega
  refine ⟨by omega, by omega, ?_, ?_⟩
  · unfold Builtin.Range.small Builtin.Range.rangeSize
    simp only [Builtin.Range.rangeFitsLong, Bool.and_eq_true, Bool.or_eq_true, decide_eq_true_eq, beq_iff_eq, show (c > 0) from hc, if_true]
    split
    · rename_i h
      have := hd3 h
      have h0 : 0 ≤ (j - i - 1) / c := Int.ediv_nonneg (by omega) (by omega)
      have := hd2 h
      generalize (j - i - 1) / c = q at *
      have e : (q + 1) * c = q * c + c := by rw [Int.add_mul, Int.one_mul]
      have e2 : (q + 1 - 1) * c = q * c := by rw [Int.add_sub_cancel]
      refine ⟨?_, ?_⟩ <;> (try rw [e]) <;> (try rw [e2]) <;> omega
    · omega
  · unfold Builtin.Range.rangeSize
    rw [if_pos hc]
    split
    · rcases hd with h | h
      · omega
      · omega
    · rfl
theorem x_forR3 {ta tc te : TE} {j : Nat} {tb : TS} (lo n c : Int) (P : Nat → L2.St → Hp → Prop) (hn : ∀ R : V → Hp → Prop, R (.int lo) H → ta σ H R) (hn2 : ∀ R : V → Hp → Prop, R (.int n) H → tc σ H R) (hn3 : ∀ R : V → Hp → Prop, R (.int c) H → te σ H R) (hc : 0 < c) (hc2 : c < 1000000) (h1 : 0 ≤ lo) (h2 : lo < 2 ^ 60) (h3 : 0 ≤ n) (h4 : n < 2 ^ 60) (h0 : P 0 σ H)
    (hs : ∀ (i : Nat) σ' H', lo + (i : Int) * c < n → P i σ' H' → tb ⟨P (i + 1), D.rt, D.nx, P (i + 1)⟩ (σ'.set j (some (.int (lo + (i : Int) * c)))) H') (hd : ∀ (i : Nat) σ' H', n ≤ lo + (i : Int) * c → P i σ' H' → D.nx σ' H') : tFor (iRng3 (tCons ta (tCons tc (tCons te tNil)))) (gName j) tb D σ H := by
  refine hn _ (hn2 _ (hn3 _ ⟨lo, n, c, _, rfl, rgC_up hc hc2 h1 h2 h3 h4, ?_⟩))
  refine for_rangeC (lo := lo) P h0 (fun i σ' H' hi p => hs i σ' H' ?_ p) (fun σ' H' p => hd _ σ' H' ?_ p)
  · split at hi
    · have hq : (i : Int) ≤ (n - lo - 1) / c := by omega
      have h5 : (n - lo - 1) / c * c ≤ n - lo - 1 := Int.ediv_mul_le _ (by omega)
      have h6 : (i : Int) * c ≤ (n - lo - 1) / c * c := Int.mul_le_mul_of_nonneg_right hq (by omega)
      omega
    · omega
  · split
    · have h5 : n - lo - 1 < ((n - lo - 1) / c + 1) * c := Int.lt_ediv_add_one_mul_self _ hc
      have h0 : 0 ≤ (n - lo - 1) / c := Int.ediv_nonneg (by omega) (by omega)
      rw [show ((((n - lo - 1) / c + 1).toNat : Nat) : Int) = (n - lo - 1) / c + 1 by omega]
      omega
    · have : (((0 : Int).toNat : Nat) : Int) * c = 0 := by simp
      omega
theorem isq_spec {i : Int} (h0 : 0 ≤ i) : ∃ r : Int, ((Float64.isqrt i.toNat : Nat) : Int) = r ∧ 0 ≤ r ∧ r * r ≤ i ∧ i < (r + 1) * (r + 1) := by
  refine ⟨_, rfl, Int.natCast_nonneg _, ?_, ?_⟩
  · have := (PySem.Float64.isqrt_spec i.toNat).1
    have e : ((Float64.isqrt i.toNat * Float64.isqrt i.toNat : Nat) : Int) ≤ (i.toNat : Int) := Int.ofNat_le.mpr this
    rw [Int.natCast_mul] at e
    omega
  · have := (PySem.Float64.isqrt_spec i.toNat).2
    have e : (i.toNat : Int) < (((Float64.isqrt i.toNat + 1) * (Float64.isqrt i.toNat + 1) : Nat) : Int) := Int.ofNat_lt.mpr this
    rw [Int.natCast_mul, Int.natCast_add] at e
    have e2 : ((1 : Nat) : Int) = 1 := rfl
    rw [e2] at e
    omega
theorem x_isqrt0 {i r : Int} (h0 : 0 ≤ i) (h1 : i < 2 ^ 64) (e : ((Float64.isqrt i.toNat : Nat) : Int) = r) (q : Q (.int r) H) : cr_isqrt_r [.int i] H Q := ⟨i, rfl, h0, h1, by rw [e]; exact q⟩
theorem x_forL {ta : TE} {g : TG} {tb : TS} {p : Addr} (xs : List V) (P : Nat → L2.St → Hp → Prop) (hn : ∀ R : V → Hp → Prop, R (.ref p) H → ta σ H R) (hp : SqL K H p xs) (h0 : P 0 σ H) (hl : ∀ i σ' H', i ≤ xs.length → P i σ' H' → SqL K H' p xs)
    (hs : ∀ i x σ' H', xs[i]? = some x → P i σ' H' → g x σ' H' fun σ2 H2 => tb ⟨P (i + 1), D.rt, D.nx, P (i + 1)⟩ σ2 H2) (hd : ∀ σ' H', P xs.length σ' H' → D.nx σ' H') : tFor (iList K ta) g tb D σ H :=
  hn _ ⟨p, rfl, ⟨xs, hp⟩, for_list (xs := xs) P h0 hl hs hd⟩
theorem x_app {p : Addr} {xs : List V} {y : V} (hp : H p = some (.lst xs)) (hl : xs.length < 1000000) (q : Q .non (upd H p (.lst (xs ++ [y])))) : rAppend (.ref p) [y] H Q :=
  ⟨p, xs, y, rfl, rfl, hp, Nat.lt_of_lt_of_le hl (by decide), q⟩
theorem x_tyL {p : Addr} {xs : List V} {R : Prop} (hp : H p = some (.lst xs)) (h : R) : tyV K "list" (.ref p) H ∧ R := ⟨.inl ⟨rfl, _, .inl (.inl hp)⟩, h⟩
theorem x_len {p : Addr} {xs : List V} (hp : SqL K H p xs) (q : Q (.int (xs.length : Int)) H) : rLen K [.ref p] H Q := ⟨p, xs, rfl, .inl hp, q⟩
theorem x_lenT {p : Addr} {xs : List V} (hp : SqT K H p xs) (q : Q (.int (xs.length : Int)) H) : rLen K [.ref p] H Q := ⟨p, xs, rfl, .inr hp, q⟩
theorem x_cat {p q : Addr} {xs ys : List V} (hp : H p = some (.lst xs)) (hq : H q = some (.lst ys)) (hl : xs.length + ys.length ≤ 1000000) (k : ∀ r, H r = none → Q (.ref r) (upd H r (.lst (xs ++ ys)))) : rCat (.ref p) (.ref q) H Q :=
  ⟨p, q, xs, ys, rfl, rfl, hp, hq, Nat.le_trans hl (by decide), k⟩
/-- while: a word by a measure -/
theorem x_while {c : TT} {tb : TS} (W : Nat → L2.St → Hp → Prop) (m0 : Nat) (h0 : W m0 σ H)
    (hs : ∀ m σ' H', W m σ' H' → ∃ b : Bool, (∀ R : Bool → Hp → Prop, R b H' → c σ' H' R) ∧ (b = true → tb ⟨fun σ2 H2 => ∃ m', m' < m ∧ W m' σ2 H2, D.rt, D.nx, fun σ2 H2 => ∃ m', m' < m ∧ W m' σ2 H2⟩ σ' H') ∧ (b = false → D.nx σ' H')) : tWhile c tb D σ H :=
  ⟨W, ⟨m0, h0⟩, fun m σ' H' w => by
    obtain ⟨b, h, h1, h2⟩ := hs m σ' H' w
    refine h _ ?_
    cases b with
    | true => exact iteT ⟨_, fun _ _ z => z, h1 rfl⟩
    | false => exact iteF (h2 rfl)⟩
theorem x_lcR1 {ta : TE} {j : Nat} {te : TE} {vs : List Nat} (n : Int) (P : Addr → Nat → Hp → Prop) (hn : ∀ R : V → Hp → Prop, R (.int n) H → ta σ H R) (h1 : -(2 ^ 62) ≤ n) (h2 : n < 2 ^ 62) (h0 : ∀ p, H p = none → P p 0 (upd H p (.lst [])))
    (hw : ∀ x, wipe ((wipe σ vs).set j (some x)) vs = wipe σ vs)
    (hs : ∀ p (i : Nat) H', H p = none → (i : Int) < n → P p i H' → te ((wipe σ vs).set j (some (.int (i : Int)))) H' fun y H4 => ∃ acc, H4 p = some (.lst acc) ∧ acc.length < sizeLine ∧ P p (i + 1) (upd H4 p (.lst (acc ++ [y]))))
    (hd : ∀ p H', H p = none → P p n.toNat H' → Q (.ref p) H') : tLc (iRng1 (tCons ta tNil)) (gName j) tYes te vs σ H Q := by
  refine hn _ ⟨n, rfl, h1, h2, fun p hp => ?_⟩
  refine lc_range (lo := 0) (Qd := fun H' => Q (.ref p) H') (P p) (h0 p hp) (fun i H' hi q => ?_) fun H' q => hd p H' hp q
  have e : (0 : Int) + (i : Int) = (i : Int) := Int.zero_add _
  rw [e]
  refine ⟨hw _, ?_⟩
  unfold tYes
  exact iteT (hs p i H' hp (by omega) q)
theorem x_lcL {ta : TE} {j : Nat} {te : TE} {vs : List Nat} {a : Addr} (xs : List V) (P : Addr → Nat → Hp → Prop) (hn : ∀ R : V → Hp → Prop, R (.ref a) H → ta σ H R) (ha : SqL K H a xs) (h0 : ∀ p, H p = none → P p 0 (upd H p (.lst [])))
    (hl : ∀ p i H', H p = none → i ≤ xs.length → P p i H' → SqL K H' a xs) (hw : ∀ x, wipe ((wipe σ vs).set j (some x)) vs = wipe σ vs)
    (hs : ∀ p (i : Nat) x H', H p = none → xs[i]? = some x → P p i H' → te ((wipe σ vs).set j (some x)) H' fun y H4 => ∃ acc, H4 p = some (.lst acc) ∧ acc.length < sizeLine ∧ P p (i + 1) (upd H4 p (.lst (acc ++ [y]))))
    (hd : ∀ p H', H p = none → P p xs.length H' → Q (.ref p) H') : tLc (iList K ta) (gName j) tYes te vs σ H Q := by
  refine hn _ ⟨a, rfl, ⟨xs, ha⟩, fun p hp => ?_⟩
  refine lc_list (xs := xs) (Qd := fun H' => Q (.ref p) H') (P p) (h0 p hp) (fun i H' hi q => hl p i H' hp hi q) (fun i x H' hi q => ?_) fun H' q => hd p H' hp q
  refine ⟨hw _, ?_⟩
  unfold tYes
  exact iteT (hs p i x H' hp hi q)
end
theorem x_gTup2 {K : PySem.W.Frag} {σ : L2.St} {H : Hp} {p : Addr} {x y : V} {i j : Nat} {R : L2.St → Hp → Prop} (hp : SqT K H p [x, y]) (h : R ((σ.set i (some x)).set j (some y)) H) : gTup K 2 (gCons (gName i) (gCons (gName j) gNil)) (.ref p) σ H R :=
  ⟨p, [x, y], rfl, hp, rfl, x, [y], rfl, y, [], rfl, rfl, h⟩
theorem sq_of {K : PySem.W.Frag} {H : Hp} {a : Addr} {xs : List V} (h : H a = some (.lst xs)) : SqL K H a xs := .inl (.inl h)
theorem st_of {K : PySem.W.Frag} {H : Hp} {a : Addr} {xs : List V} (h : H a = some (.tup xs)) : SqT K H a xs := .inl (.inl h)
theorem mul_r {i j : Int} (h1 : -(2 ^ 64) < j) (h2 : j < 2 ^ 64) : CMul i j := .inr ⟨h1, h2⟩
theorem mul_l {i j : Int} (h1 : -(2 ^ 64) < i) (h2 : i < 2 ^ 64) : CMul i j := .inl ⟨h1, h2⟩
theorem cr_isqrt {X : Cx} : CallR X (.builtin "math.isqrt") cr_isqrt_r := by
  intro pins s σ H vs us Q I r h
  obtain ⟨i, rfl, h0, h1, q⟩ := h
  cases r with
  | cons r1 rr =>
    cases rr
    obtain ⟨t, rfl⟩ := r1
    exact PySem.W.mg_isqrt h0 h1 ⟨.int _, H, I.tok _, ⟨_, rfl⟩, q⟩
/-- all but what stands at d is as it was -/
def Keep (d : Addr) (H H' : Hp) : Prop := ∀ b o, H b = some o → b ≠ d → H' b = some o
theorem Keep.refl (d : Addr) (H : Hp) : Keep d H H := fun _ _ h _ => h
theorem Keep.trans {d : Addr} {H H1 H2 : Hp} (a : Keep d H H1) (b : Keep d H1 H2) : Keep d H H2 := fun c o h n => b c o (a c o h n) n
theorem seqT {K : PySem.W.Frag} {H H' : Hp} {a : Addr} {xs : List V} (e : Same H H') (h : SqT K H a xs) : SqT K H' a xs := by
  rcases h with (h | ⟨o, h⟩) | h
  · exact .inl (.inl (e _ _ h))
  · exact .inl (.inr ⟨o, e _ _ h⟩)
  · exact .inr h
theorem sfree {H H' : Hp} (e : Same H H') {p : Addr} (h : H' p = none) : H p = none := e.free h
theorem sput {H H' : Hp} {p : Addr} {o : HO} (s : Same H H') (h : H p = none) : Same H (upd H' p o) := fun b x e => by
  rw [upd_ne (ne_of_none e h)]
  exact s b x e
theorem Same.tr {H H1 H2 : Hp} (a : Same H H1) (b : Same H1 H2) : Same H H2 := fun c o h => b c o (a c o h)
theorem Same.keep {d : Addr} {H H' : Hp} (a : Same H H') : Keep d H H' := fun c o h _ => a c o h
theorem same_upd {H : Hp} {p : Addr} {o : HO} (h : H p = none) : Same H (upd H p o) := fun b x e => by
  rw [upd_ne (ne_of_none e h)]
  exact e
theorem keep_upd {H : Hp} {p : Addr} {o : HO} : Keep p H (upd H p o) := fun b x e n => by
  rw [upd_ne n]
  exact e
/-- what is new may change -/
theorem Same.put {H H' : Hp} {p : Addr} {o : HO} (s : Same H H') (h : H p = none) : Same H (upd H' p o) := fun b x e => by
  rw [upd_ne (ne_of_none e h)]
  exact s b x e
theorem Keep.put {d : Addr} {H H' : Hp} {p : Addr} {o : HO} (s : Keep d H H') (h : H p = none) : Keep d H (upd H' p o) := fun b x e n => by
  rw [upd_ne (ne_of_none e h)]
  exact s b x e n
theorem Keep.seq {K : PySem.W.Frag} {d : Addr} {H H' : Hp} {a : Addr} {xs : List V} (e : Keep d H H') (n : a ≠ d) (h : SqL K H a xs) : SqL K H' a xs := by
  rcases h with (h | ⟨o, h⟩) | h
  · exact .inl (.inl (e _ _ h n))
  · exact .inl (.inr ⟨o, e _ _ h n⟩)
  · exact .inr h
/-- ints within bounds -/
def Rg (lo hi : Int) (ns : List Int) : Prop := ∀ z, z ∈ ns → lo ≤ z ∧ z < hi
theorem Rg.nil {lo hi : Int} : Rg lo hi [] := fun _ h => absurd h (by simp)
theorem Rg.app {lo hi : Int} {xs ys : List Int} (a : Rg lo hi xs) (b : Rg lo hi ys) : Rg lo hi (xs ++ ys) := fun z h => (List.mem_append.mp h).elim (a z) (b z)
theorem Rg.one {lo hi x : Int} (h1 : lo ≤ x) (h2 : x < hi) : Rg lo hi [x] := fun z h => by
  have e : z = x := by simpa using h
  subst e
  exact ⟨h1, h2⟩
theorem Rg.snoc {lo hi x : Int} {xs : List Int} (a : Rg lo hi xs) (h1 : lo ≤ x) (h2 : x < hi) : Rg lo hi (xs ++ [x]) := a.app (.one h1 h2)
theorem Rg.get {lo hi x : Int} {xs : List Int} {i : Nat} (a : Rg lo hi xs) (h : xs[i]? = some x) : lo ≤ x ∧ x < hi := a x (List.mem_of_getElem? h)
theorem map_get {ns : List Int} {i : Nat} {y : V} (h : (ns.map V.int)[i]? = some y) : ∃ z, ns[i]? = some z ∧ y = .int z := by
  rw [List.getElem?_map] at h
  cases e : ns[i]? with
  | none => rw [e] at h; cases h
  | some z => rw [e] at h; exact ⟨z, rfl, (Option.some.inj h).symm⟩
theorem gcd_step {a b : Int} : Int.gcd b (a % b) = Int.gcd a b := by
  rw [Int.emod_def, Int.gcd_sub_mul_left_right, Int.gcd_comm]
theorem half_step {a b : Int} (hb : 0 < b) (h : b < a) : b * (a % b) * 2 ≤ a * b := by
  have h1 := Int.emod_lt_of_pos a hb
  have h0 := Int.emod_nonneg a (show b ≠ 0 by omega)
  have h2 : b * (a / b) + a % b = a := Int.mul_ediv_add_emod a b
  have h3 : 1 ≤ a / b := (Int.le_ediv_iff_mul_le hb).mpr (by omega)
  have h4 : b * 1 ≤ b * (a / b) := Int.mul_le_mul_of_nonneg_left h3 (by omega)
  have h5 : a % b * 2 ≤ a := by omega
  have h6 : a % b * 2 * b ≤ a * b := Int.mul_le_mul_of_nonneg_right h5 (by omega)
  have e : b * (a % b) * 2 = a % b * 2 * b := by
    rw [Int.mul_comm b, Int.mul_assoc, Int.mul_assoc, Int.mul_comm b 2]
  omega
/-- an item of a written list -/
theorem at_lt {xs : List V} {i : Int} (h0 : 0 ≤ i) (h1 : i < (xs.length : Int)) : ∃ v, atI xs i = some v ∧ v ∈ xs := by
  obtain ⟨j, rfl⟩ : ∃ j : Nat, i = (j : Int) := ⟨i.toNat, by omega⟩
  have hj : j < xs.length := by omega
  exact ⟨xs[j], atI_nat (List.getElem?_eq_getElem hj), List.getElem_mem hj⟩
theorem map_getR {as : List Addr} {i : Nat} {v : V} (h : (as.map V.ref)[i]? = some v) : ∃ b, as[i]? = some b ∧ v = .ref b := by
  rw [List.getElem?_map] at h
  cases e : as[i]? with
  | none => rw [e] at h; cases h
  | some b => rw [e] at h; exact ⟨b, rfl, (Option.some.inj h).symm⟩
theorem kput {d : Addr} {H H' : Hp} {p : Addr} {o : HO} (s : Keep d H H') (h : H p = none) : Keep d H (upd H' p o) := s.put h
theorem snoc_at {α : Type} {xs : List α} {y z : α} {i j : Nat} (hl : xs.length = i) (h : (xs ++ [y])[j]? = some z) : (j < i ∧ xs[j]? = some z) ∨ (j = i ∧ z = y) := by
  by_cases hj : j < xs.length
  · rw [List.getElem?_append_left hj] at h
    exact .inl ⟨by omega, h⟩
  · have hlt := (List.getElem?_eq_some_iff.mp h).1
    rw [List.length_append] at hlt
    have e : j = xs.length := by simp at hlt; omega
    subst e
    rw [List.getElem?_append_right (Nat.le_refl _), Nat.sub_self] at h
    exact .inr ⟨hl, (Option.some.inj h).symm⟩
theorem lt_line {n : Nat} (h : n < 1000000) : n < sizeLine := Nat.lt_of_lt_of_le h (by decide)
/-- what is fresh may change -/
theorem same_keep {H H1 H2 : Hp} {l : Addr} (hl : H l = none) (s : Same H H1) (k : Keep l H1 H2) : Same H H2 := fun b o e => k b o (s b o e) (ne_of_none e hl)
theorem ixN_nat {n i : Nat} (h : i < n) : ixN n (i : Int) = some i := by
  unfold ixN
  grind
theorem cast_lt {x : Int} {c : Nat} (h0 : 0 ≤ x) (h1 : x < c) : ∃ t : Nat, x = (t : Int) ∧ t < c := ⟨x.toNat, by omega, by omega⟩
section
variable {σ : L2.St} {H : Hp} {Q : VK} {R : Option Int → Hp → Prop}
theorem x_sl2 {r : V → Option Int → Option Int → Hp → VK → Prop} {te : TE} {tl th : TO} (h : te σ H fun x H1 => tl σ H1 fun l H2 => th σ H2 fun u H3 => r x l u H3 Q) : tSl r te tl th σ H Q := h
theorem x_part0 (h : R none H) : tNoPart σ H R := h
theorem x_part1 {te : TE} (h : te σ H fun x H1 => ∃ i, x = .int i ∧ R (some i) H1) : tPart te σ H R := h
theorem x_cutL {K : PySem.W.Frag} {p : Addr} {xs : List V} {lo hi : Option Int} (hp : SqL K H p xs) (q : ∀ r, H r = none → Q (.ref r) (upd H r (.lst (cutV xs lo hi)))) : rSlL K (.ref p) lo hi H Q := ⟨p, xs, rfl, hp, q⟩
end
end Br

/-! ### Fermat's little theorem, by the products of the rests -/
namespace Br.F
def noDiv (p : Nat) (n : Nat) : Bool := Nat.rec true (fun k ih => (p % (k + 2) != 0) && ih) n
theorem noDiv_at {p : Nat} : ∀ {n : Nat}, noDiv p n = true → ∀ d, 2 ≤ d → d < n + 2 → ¬ d ∣ p
  | 0, _, d, h1, h2, _ => by omega
  | n + 1, h, d, h1, h2, hd => by
    have h' : ((p % (n + 2) != 0) && noDiv p n) = true := h
    rw [Bool.and_eq_true] at h'
    by_cases e : d < n + 2
    · exact noDiv_at h'.2 d h1 e hd
    · have e2 : d = n + 2 := by omega
      subst e2
      have := Nat.mod_eq_zero_of_dvd hd
      simp [this] at h'
def IsPrime (p : Nat) : Prop := 2 ≤ p ∧ ∀ d, d ∣ p → d = 1 ∨ d = p
theorem prime_of {p k : Nat} (h2 : 2 ≤ p) (hk : p < (k + 2) * (k + 2)) (h : noDiv p k = true) : IsPrime p := by
  refine ⟨h2, fun d hd => ?_⟩
  by_cases h1 : d = 1
  · exact .inl h1
  by_cases hp : d = p
  · exact .inr hp
  exfalso
  obtain ⟨e, he⟩ := hd
  have d0 : d ≠ 0 := fun z => by subst z; simp at he; omega
  have e0 : e ≠ 0 := fun z => by subst z; simp at he; omega
  have e1 : e ≠ 1 := fun z => by subst z; simp at he; exact hp he.symm
  by_cases hlt : d < k + 2
  · exact noDiv_at h d (by omega) hlt ⟨e, he⟩
  · by_cases hlt2 : e < k + 2
    · exact noDiv_at h e (by omega) hlt2 ⟨d, by rw [he, Nat.mul_comm]⟩
    · have : (k + 2) * (k + 2) ≤ d * e := Nat.mul_le_mul (by omega) (by omega)
      omega
theorem IsPrime.coprime {p a : Nat} (hp : IsPrime p) (h : ¬ p ∣ a) : Nat.Coprime p a := by
  rcases hp.2 _ (Nat.gcd_dvd_left p a) with e | e
  · exact e
  · exact absurd (e ▸ Nat.gcd_dvd_right p a) h
theorem IsPrime.mul {p a b : Nat} (hp : IsPrime p) (h : p ∣ a * b) : p ∣ a ∨ p ∣ b := by
  by_cases h1 : p ∣ a
  · exact .inl h1
  · exact .inr ((hp.coprime h1).dvd_of_dvd_mul_left h)
theorem dvd_sub_of {p x y : Nat} (h : x % p = y % p) : p ∣ y - x := Nat.dvd_of_mod_eq_zero (Nat.sub_mod_eq_zero_of_mod_eq h.symm)
theorem mod_of_dvd_sub {p x y : Nat} (hl : x ≤ y) (h : p ∣ y - x) : x % p = y % p := by
  obtain ⟨q, hq⟩ := h
  have e : y = x + p * q := by omega
  rw [e, Nat.add_mul_mod_self_left]
theorem perm_of : ∀ {M L : List Nat}, M.Nodup → (∀ x, x ∈ M → x ∈ L) → L.length = M.length → M.Perm L
  | [], L, _, _, hl => by
    have : L = [] := List.length_eq_zero_iff.mp hl
    rw [this]
  | a :: M, L, hn, hs, hl => by
    have ha : a ∈ L := hs a List.mem_cons_self
    have hn' := List.nodup_cons.mp hn
    have h2 : M.Perm (L.erase a) := perm_of hn'.2 (fun x hx => (List.mem_erase_of_ne (fun e => hn'.1 (by rw [← e]; exact hx))).mpr (hs x (List.mem_cons_of_mem _ hx))) (by
      rw [List.length_erase_of_mem ha]
      rw [List.length_cons] at hl
      omega)
    exact (List.Perm.cons a h2).trans (List.perm_cons_erase ha).symm
def prod : List Nat → Nat
  | [] => 1
  | a :: l => a * prod l
theorem prod_perm {a b : List Nat} (h : a.Perm b) : prod a = prod b := by
  induction h with
  | nil => rfl
  | cons x _ ih => show x * _ = x * _; rw [ih]
  | swap x y l => show y * (x * _) = x * (y * _); rw [← Nat.mul_assoc, ← Nat.mul_assoc, Nat.mul_comm y x]
  | trans _ _ h1 h2 => rw [h1, h2]
theorem prod_map {p a : Nat} : ∀ l : List Nat, prod (l.map fun x => a * x % p) % p = a ^ l.length * prod l % p
  | [] => by simp [prod]
  | x :: l => by
    show (a * x % p) * prod (l.map fun x => a * x % p) % p = a ^ (l.length + 1) * (x * prod l) % p
    rw [Nat.mul_mod, Nat.mod_mod, prod_map l, ← Nat.mul_mod, Nat.pow_succ]
    congr 1
    rw [Nat.mul_assoc (a ^ l.length) a, Nat.mul_left_comm a x, Nat.mul_comm a x, Nat.mul_assoc x a, ← Nat.mul_assoc (a ^ l.length) x, Nat.mul_comm (a ^ l.length) x, Nat.mul_assoc x (a ^ l.length), ← Nat.mul_assoc (a ^ l.length), Nat.mul_comm (a ^ l.length) a, Nat.mul_assoc a]
theorem prod_not {p : Nat} (hp : IsPrime p) : ∀ l : List Nat, (∀ x, x ∈ l → ¬ p ∣ x) → ¬ p ∣ prod l
  | [], _, h => by
    have : p = 1 := Nat.dvd_one.mp h
    have := hp.1
    omega
  | x :: l, h, hd => by
    rcases hp.mul (show p ∣ x * prod l from hd) with h1 | h1
    · exact h x List.mem_cons_self h1
    · exact prod_not hp l (fun y hy => h y (List.mem_cons_of_mem _ hy)) h1
theorem fermat {p a : Nat} (hp : IsPrime p) (ha : ¬ p ∣ a) : a ^ (p - 1) % p = 1 % p := by
  have hp2 := hp.1
  let L := List.range' 1 (p - 1)
  have hL : ∀ x, x ∈ L ↔ 1 ≤ x ∧ x < p := fun x => by
    show x ∈ List.range' 1 (p - 1) ↔ _
    rw [List.mem_range'_1]
    omega
  have hnL : L.Nodup := List.nodup_range'
  have hLn : ∀ x, x ∈ L → ¬ p ∣ x := fun x hx hd => by
    have := (hL x).mp hx
    have := Nat.le_of_dvd (by omega) hd
    omega
  have hM : (L.map fun x => a * x % p).Perm L := by
    refine perm_of ?_ ?_ (by rw [List.length_map])
    · refine List.pairwise_map.mpr (List.Pairwise.imp_of_mem ?_ hnL)
      intro x y hx hy hne he
      have bx := (hL x).mp hx
      have bY := (hL y).mp hy
      have key : ∀ u v, 1 ≤ u → u < p → v < p → u ≤ v → a * u % p = a * v % p → u = v := fun u v h1 h2 h3 h4 h5 => by
        have hd : p ∣ a * (v - u) := by
          rw [Nat.mul_sub]
          exact dvd_sub_of h5
        rcases hp.mul hd with h6 | h6
        · exact absurd h6 ha
        · by_cases h7 : v - u = 0
          · omega
          · have := Nat.le_of_dvd (by omega) h6
            omega
      rcases Nat.le_total x y with h | h
      · exact hne (key x y bx.1 bx.2 bY.2 h he)
      · exact hne (key y x bY.1 bY.2 bx.2 h he.symm).symm
    · intro z hz
      obtain ⟨x, hx, rfl⟩ := List.mem_map.mp hz
      refine (hL _).mpr ⟨?_, Nat.mod_lt _ (by omega)⟩
      by_cases h0 : a * x % p = 0
      · rcases hp.mul (Nat.dvd_of_mod_eq_zero h0) with h6 | h6
        · exact absurd h6 ha
        · exact absurd h6 (hLn x hx)
      · omega
  have e1 := prod_perm hM
  have e2 : a ^ L.length * prod L % p = prod L % p := by rw [← prod_map, e1]
  have hlen : L.length = p - 1 := List.length_range'
  rw [hlen] at e2
  have hpos : 1 ≤ a ^ (p - 1) := Nat.one_le_iff_ne_zero.mpr fun z => by
    have : a = 0 := Nat.pow_eq_zero.mp z |>.1
    subst this
    exact ha (Nat.dvd_zero p)
  have hd : p ∣ (a ^ (p - 1) - 1) * prod L := by
    rw [Nat.sub_mul, Nat.one_mul]
    exact dvd_sub_of e2.symm
  rcases hp.mul hd with h | h
  · exact (mod_of_dvd_sub hpos h).symm
  · exact absurd h (prod_not hp L hLn)
theorem p2 : IsPrime 2 := prime_of (k := 0) (by decide) (by decide) (by decide)
theorem p3 : IsPrime 3 := prime_of (k := 0) (by decide) (by decide) (by decide)
theorem p5 : IsPrime 5 := prime_of (k := 1) (by decide) (by decide) (by decide +kernel)
theorem p7 : IsPrime 7 := prime_of (k := 1) (by decide) (by decide) (by decide +kernel)
theorem p11 : IsPrime 11 := prime_of (k := 2) (by decide) (by decide) (by decide +kernel)
theorem p13 : IsPrime 13 := prime_of (k := 2) (by decide) (by decide) (by decide +kernel)
theorem p101 : IsPrime 101 := prime_of (k := 9) (by decide) (by decide) (by decide +kernel)
theorem pBig : IsPrime 999999937 := prime_of (k := 31622) (by decide) (by decide +kernel) (by decide +kernel)
end Br.F

/-! ### tables' polynomials: the shares of Lagrange's formula modulo a prime -/
namespace Br.F
def Tp (x : Int) : Nat → Int
  | 0 => 1
  | n + 1 => Tp x n * (x - (n : Int))
def Ab (x : Int) (at_ : Nat) : Nat → Int
  | 0 => 1
  | n + 1 => if n = at_ then Ab x at_ n else Ab x at_ n * (x - (n : Int))
def fct : Nat → Int
  | 0 => 1
  | n + 1 => fct n * ((n : Int) + 1)
def sg (m : Nat) : Int := if m % 2 = 0 then 1 else -1
theorem sg_succ (m : Nat) : sg (m + 1) = - sg m := by
  unfold sg
  split <;> split <;> first | omega | rfl
theorem Ab_eq {x : Int} {at_ n : Nat} (h : n ≠ at_) : Ab x at_ (n + 1) = Ab x at_ n * (x - (n : Int)) := if_neg h
theorem Ab_at {x : Int} {at_ : Nat} : Ab x at_ (at_ + 1) = Ab x at_ at_ := if_pos rfl
theorem Ab_lt {x : Int} {at_ : Nat} : ∀ {n : Nat}, n ≤ at_ → Ab x at_ n = Tp x n
  | 0, _ => rfl
  | n + 1, h => by
    rw [Ab_eq (by omega), Ab_lt (by omega)]
    rfl
theorem Tp_split {x : Int} {at_ : Nat} : ∀ {n : Nat}, at_ < n → Tp x n = (x - (at_ : Int)) * Ab x at_ n
  | 0, h => by omega
  | n + 1, h => by
    by_cases e : n = at_
    · subst e
      rw [Ab_at, Ab_lt (Nat.le_refl _), Int.mul_comm]
      rfl
    · rw [Ab_eq e]
      show Tp x n * (x - (n : Int)) = _
      rw [Tp_split (at_ := at_) (by omega), Int.mul_assoc]
theorem Ab_zero {x at_ : Nat} (hx : x ≠ at_) : ∀ {n : Nat}, x < n → Ab (x : Int) at_ n = 0
  | 0, h => by omega
  | n + 1, h => by
    by_cases e : n = at_
    · subst e
      rw [Ab_at, Ab_zero hx (by omega)]
    · rw [Ab_eq e]
      by_cases e2 : x = n
      · subst e2
        rw [Int.sub_self, Int.mul_zero]
      · rw [Ab_zero hx (by omega), Int.zero_mul]
theorem Tp_low {at_ : Nat} : ∀ {n : Nat}, n ≤ at_ → Tp (at_ : Int) n * fct (at_ - n) = fct at_
  | 0, _ => by rw [Nat.sub_zero]; exact Int.one_mul _
  | n + 1, h => by
    have ih := Tp_low (at_ := at_) (n := n) (by omega)
    obtain ⟨k, hk⟩ : ∃ k, at_ - n = k + 1 := ⟨at_ - n - 1, by omega⟩
    have e : at_ - (n + 1) = k := by omega
    rw [hk] at ih
    rw [e]
    show Tp (at_ : Int) n * ((at_ : Int) - (n : Int)) * fct k = _
    have e2 : (at_ : Int) - (n : Int) = (k : Int) + 1 := by omega
    rw [e2, Int.mul_assoc, Int.mul_comm ((k : Int) + 1)]
    exact ih
theorem Ab_hi {at_ : Nat} : ∀ m : Nat, Ab (at_ : Int) at_ (at_ + 1 + m) = fct at_ * (sg m * fct m)
  | 0 => by
    show Ab (at_ : Int) at_ (at_ + 1) = _
    rw [Ab_at, Ab_lt (Nat.le_refl _)]
    have h := Tp_low (at_ := at_) (Nat.le_refl at_)
    rw [Nat.sub_self] at h
    have e : fct 0 = 1 := rfl
    have e2 : sg 0 = 1 := rfl
    rw [e, Int.mul_one] at h
    rw [h, e, e2, Int.mul_one, Int.mul_one]
  | m + 1 => by
    show Ab (at_ : Int) at_ (at_ + 1 + m + 1) = _
    rw [Ab_eq (by omega), Ab_hi m, sg_succ]
    show _ = fct at_ * (-sg m * (fct m * ((m : Int) + 1)))
    have e : (at_ : Int) - ((at_ + 1 + m : Nat) : Int) = -((m : Int) + 1) := by omega
    rw [e]
    grind
theorem IsPrime.mulI {p : Nat} {a b : Int} (hp : IsPrime p) (h : (p : Int) ∣ a * b) : (p : Int) ∣ a ∨ (p : Int) ∣ b := by
  have h' : p ∣ a.natAbs * b.natAbs := by
    rw [← Int.natAbs_mul]
    exact Int.natAbs_dvd_natAbs.mpr h
  rcases hp.mul h' with h1 | h1
  · exact .inl (Int.ofNat_dvd_left.mpr h1)
  · exact .inr (Int.ofNat_dvd_left.mpr h1)
theorem small_dvd {p : Nat} {z : Int} (h : (p : Int) ∣ z) (h1 : -(p : Int) < z) (h2 : z < p) : z = 0 := by
  obtain ⟨q, hq⟩ := h
  have hp : 0 < (p : Int) := by omega
  by_cases h0 : q = 0
  · rw [hq, h0, Int.mul_zero]
  · exfalso
    rcases Int.lt_or_gt_of_ne h0 with hl | hl
    · have : (p : Int) * q ≤ p * (-1) := Int.mul_le_mul_of_nonneg_left (by omega) (by omega)
      omega
    · have : (p : Int) * 1 ≤ p * q := Int.mul_le_mul_of_nonneg_left (by omega) (by omega)
      omega
theorem one_not {p : Nat} (hp : IsPrime p) : ¬ (p : Int) ∣ 1 := fun h => by
  have := small_dvd h (by have := hp.1; omega) (by have := hp.1; omega)
  omega
theorem Ab_not {p at_ : Nat} {x : Int} (hp : IsPrime p) : ∀ {n : Nat}, (∀ o : Nat, o < n → o ≠ at_ → ¬ (p : Int) ∣ x - (o : Int)) → ¬ (p : Int) ∣ Ab x at_ n
  | 0, _ => one_not hp
  | n + 1, h => by
    have ih := Ab_not (n := n) hp fun o ho => h o (by omega)
    by_cases e : n = at_
    · subst e
      rw [Ab_at]
      exact ih
    · rw [Ab_eq e]
      intro hd
      rcases hp.mulI hd with h1 | h1
      · exact ih h1
      · exact h n (by omega) e h1
theorem Ab_own {p at_ n : Nat} (hp : IsPrime p) (ha : at_ < n) (hn : n ≤ p) : ¬ (p : Int) ∣ Ab (at_ : Int) at_ n :=
  Ab_not hp fun o ho hne hd => by
    have := small_dvd hd (by omega) (by omega)
    omega
/-- the share of the index at_ at x -/
def Bas (p n at_ : Nat) (x v : Int) : Prop := 0 ≤ v ∧ v < p ∧ (p : Int) ∣ v * Ab (at_ : Int) at_ n - Ab x at_ n
theorem Bas.uniq {p n at_ : Nat} {x u v : Int} (hp : IsPrime p) (ha : at_ < n) (hn : n ≤ p) (hu : Bas p n at_ x u) (hv : Bas p n at_ x v) : u = v := by
  have h : (p : Int) ∣ (u - v) * Ab (at_ : Int) at_ n := by
    have := Int.dvd_sub hu.2.2 hv.2.2
    have e : (u - v) * Ab (at_ : Int) at_ n = u * Ab (at_ : Int) at_ n - Ab x at_ n - (v * Ab (at_ : Int) at_ n - Ab x at_ n) := by grind
    rw [e]
    exact this
  rcases hp.mulI h with h1 | h1
  · have := small_dvd h1 (by have := hu.1; have := hv.2.1; omega) (by have := hv.1; have := hu.2.1; omega)
    omega
  · exact absurd h1 (Ab_own hp ha hn)
theorem Bas.ind {p n at_ x : Nat} (hp : IsPrime p) (hx : x < n) : Bas p n at_ (x : Int) (if at_ = x then 1 else 0) := by
  have hp2 := hp.1
  refine ⟨by split <;> omega, by split <;> omega, ?_⟩
  by_cases e : at_ = x
  · subst e
    rw [if_pos rfl, Int.one_mul, Int.sub_self]
    exact Int.dvd_zero _
  · rw [if_neg e, Int.zero_mul, Ab_zero (fun z => e z.symm) hx, Int.sub_self]
    exact Int.dvd_zero _
/-- by the inverse of the whole bottom -/
theorem Bas.inv {p n at_ : Nat} {x tp bot y : Int} (ha : at_ < n) (hp2 : 2 ≤ p) (ht : (p : Int) ∣ tp - Tp x n) (hb : (p : Int) ∣ bot - Ab (at_ : Int) at_ n) (hy : y * ((x - (at_ : Int)) * bot) % p = 1) : Bas p n at_ x (tp * y % p) := by
  refine ⟨Int.emod_nonneg _ (by omega), Int.emod_lt_of_pos _ (by omega), ?_⟩
  rw [Tp_split ha] at ht
  generalize Ab (at_ : Int) at_ n = A at *
  generalize Ab x at_ n = U at *
  generalize x - (at_ : Int) = D at *
  obtain ⟨t1, h1⟩ := ht
  obtain ⟨t2, h2⟩ := hb
  have h3 := Int.mul_ediv_add_emod (y * (D * bot)) p
  rw [hy] at h3
  have h4 := Int.mul_ediv_add_emod (tp * y) p
  generalize y * (D * bot) / (p : Int) = t3 at *
  generalize tp * y / (p : Int) = t4 at *
  generalize tp * y % (p : Int) = v at *
  refine ⟨t1 * y * A - t4 * A + U * (t3 - D * y * t2), ?_⟩
  have e1 : tp = D * U + p * t1 := by omega
  have e2 : bot = A + p * t2 := by omega
  have e3 : v = tp * y - p * t4 := by omega
  subst e1 e2 e3
  have e5 : y * (D * (A + p * t2)) = p * t3 + 1 := by omega
  have e6 : U * (y * (D * (A + p * t2))) = U * (p * t3 + 1) := by rw [e5]
  grind
theorem pow_dvd {p a b : Int} (h : p ∣ a - b) : ∀ k : Nat, p ∣ a ^ k - b ^ k
  | 0 => by rw [Int.pow_zero, Int.pow_zero, Int.sub_self]; exact Int.dvd_zero _
  | k + 1 => by
    obtain ⟨u, hu⟩ := pow_dvd h k
    obtain ⟨v, hv⟩ := h
    refine ⟨u * a + b ^ k * v, ?_⟩
    rw [Int.pow_succ, Int.pow_succ]
    have e1 : a ^ k = b ^ k + p * u := by omega
    have e2 : a = b + p * v := by omega
    rw [e1]
    generalize b ^ k = B
    subst e2
    grind
/-- by Fermat's power -/
theorem Bas.pow {p n at_ : Nat} {x ab be pw : Int} (hp : IsPrime p) (hat : at_ < n) (hn : n ≤ p) (hbe0 : 0 ≤ be) (ha : (p : Int) ∣ ab - Ab x at_ n) (hb : (p : Int) ∣ be - Ab (at_ : Int) at_ n) (hw : (p : Int) ∣ pw - be ^ (p - 2)) : Bas p n at_ x (ab * pw % p) := by
  have hp2 := hp.1
  refine ⟨Int.emod_nonneg _ (by omega), Int.emod_lt_of_pos _ (by omega), ?_⟩
  have hA := Ab_own hp hat hn
  generalize Ab (at_ : Int) at_ n = A at *
  generalize Ab x at_ n = U at *
  have hbn : ¬ (p : Int) ∣ be := fun h => hA (by
    have e : A = be - (be - A) := by omega
    rw [e]
    exact Int.dvd_sub h hb)
  obtain ⟨bn, rfl⟩ : ∃ bn : Nat, be = (bn : Int) := ⟨be.toNat, by omega⟩
  have hf : bn ^ (p - 1) % p = 1 % p := fermat hp fun h => hbn (Int.ofNat_dvd.mpr h)
  have hf2 : ((bn : Int) ^ (p - 1)) % (p : Int) = 1 := by
    have h1 : 1 % p = 1 := Nat.mod_eq_of_lt (by omega)
    rw [h1] at hf
    have e : (((bn ^ (p - 1) % p : Nat)) : Int) = 1 := by rw [hf]; rfl
    rw [Int.natCast_emod, Int.natCast_pow] at e
    exact e
  have h3 := Int.mul_ediv_add_emod ((bn : Int) ^ (p - 1)) p
  rw [hf2] at h3
  obtain ⟨k, hk⟩ : ∃ k, p = k + 2 := ⟨p - 2, by omega⟩
  have e1 : p - 1 = k + 1 := by omega
  have e2 : p - 2 = k := by omega
  rw [e1, Int.pow_succ] at h3
  rw [e2] at hw
  generalize (bn : Int) ^ k = W at *
  generalize (W * (bn : Int)) / (p : Int) = t3 at *
  obtain ⟨t1, h1⟩ := ha
  obtain ⟨t2, h2⟩ := hb
  obtain ⟨t5, h5⟩ := hw
  have h4 := Int.mul_ediv_add_emod (ab * pw) p
  generalize ab * pw / (p : Int) = t4 at *
  generalize ab * pw % (p : Int) = v at *
  have g1 : ab = U + p * t1 := by omega
  have g2 : A = (bn : Int) - p * t2 := by omega
  have g3 : v = ab * pw - p * t4 := by omega
  have g5 : pw = W + p * t5 := by omega
  have g6 : W * (bn : Int) = 1 + p * t3 := by omega
  subst g1 g5
  subst g3
  subst g2
  refine ⟨t1 * (W + p * t5) * ((bn : Int) - p * t2) - t4 * ((bn : Int) - p * t2) + U * t3 + U * t5 * ((bn : Int) - p * t2) - U * W * t2, ?_⟩
  have g7 : U * (W * (bn : Int)) = U * (1 + p * t3) := by rw [g6]
  grind
/-- sums -/
def S1 (f : Nat → Int) : Nat → Int
  | 0 => 0
  | n + 1 => S1 f n + f n
theorem S1_congr {f g : Nat → Int} : ∀ {n : Nat}, (∀ i, i < n → f i = g i) → S1 f n = S1 g n
  | 0, _ => rfl
  | n + 1, h => by
    show S1 f n + f n = S1 g n + g n
    rw [S1_congr fun i hi => h i (by omega), h n (by omega)]
theorem S1_mul {f : Nat → Int} {c : Int} : ∀ {n : Nat}, S1 (fun i => c * f i) n = c * S1 f n
  | 0 => (Int.mul_zero c).symm
  | n + 1 => by
    show S1 (fun i => c * f i) n + c * f n = c * (S1 f n + f n)
    rw [S1_mul, Int.mul_add]
theorem S1_one {n k : Nat} {f : Nat → Int} (h : ∀ i, i ≠ k → f i = 0) : k < n → S1 f n = f k := by
  induction n with
  | zero => intro hk; omega
  | succ n ih =>
    intro hk
    show S1 f n + f n = f k
    by_cases e : k = n
    · subst e
      have z : ∀ m, m ≤ k → S1 f m = 0 := fun m => by
        induction m with
        | zero => intro _; rfl
        | succ m ih => intro hm; show S1 f m + f m = 0; rw [ih (by omega), h m (by omega)]; rfl
      rw [z k (Nat.le_refl _), Int.zero_add]
    · rw [ih (by omega), h n (fun z => e z.symm), Int.add_zero]
/-- the value of the table's polynomial -/
def Itp (p : Nat) (t : List (List Int)) (x y v : Int) : Prop := ∃ R C : Nat → Int, (∀ i, i < t.length → Bas p t.length i x (R i)) ∧ (∀ j, j < t.length → Bas p t.length j y (C j)) ∧
  v = S1 (fun i => R i * S1 (fun j => C j * (t.getD i []).getD j 0) t.length) t.length % p
theorem Itp.uniq {p : Nat} {t : List (List Int)} {x y u v : Int} (hp : IsPrime p) (hn : t.length ≤ p) (hu : Itp p t x y u) (hv : Itp p t x y v) : u = v := by
  obtain ⟨R, C, h1, h2, h3⟩ := hu
  obtain ⟨R', C', h1', h2', h3'⟩ := hv
  rw [h3, h3']
  congr 1
  refine S1_congr fun i hi => ?_
  rw [(h1 i hi).uniq hp hi hn (h1' i hi)]
  congr 1
  exact S1_congr fun j hj => by rw [(h2 j hj).uniq hp hj hn (h2' j hj)]
theorem Itp.own {p : Nat} {t : List (List Int)} {x y : Nat} (hp : IsPrime p) (hx : x < t.length) (hy : y < t.length) (h0 : 0 ≤ (t.getD x []).getD y 0) (h1 : (t.getD x []).getD y 0 < p) : Itp p t x y ((t.getD x []).getD y 0) := by
  refine ⟨fun i => if i = x then 1 else 0, fun j => if j = y then 1 else 0, fun i _ => .ind hp hx, fun j _ => .ind hp hy, ?_⟩
  rw [S1_one (k := x) (fun i hi => by show (if i = x then (1 : Int) else 0) * _ = 0; rw [if_neg hi, Int.zero_mul]) hx]
  show _ = (if x = x then (1 : Int) else 0) * S1 _ _ % _
  rw [if_pos rfl, Int.one_mul, S1_one (k := y) (fun j hj => by show (if j = y then (1 : Int) else 0) * _ = 0; rw [if_neg hj, Int.zero_mul]) hy]
  show _ = (if y = y then (1 : Int) else 0) * _ % _
  rw [if_pos rfl, Int.one_mul, Int.emod_eq_of_lt h0 h1]
/-- the share, written out -/
def BsV (p n i : Nat) (x : Int) : Int := Ab x i n * (Ab (i : Int) i n % p) ^ (p - 2) % p
theorem BsV.ok {p n i : Nat} {x : Int} (hp : IsPrime p) (hi : i < n) (hn : n ≤ p) : Bas p n i x (BsV p n i x) := by
  have hp2 := hp.1
  refine Bas.pow (be := Ab (i : Int) i n % p) hp hi hn (Int.emod_nonneg _ (by omega)) ⟨0, by omega⟩ ?_ ⟨0, by omega⟩
  have := Int.mul_ediv_add_emod (Ab (i : Int) i n) p
  exact ⟨-(Ab (i : Int) i n / p), by rw [Int.mul_neg]; omega⟩
theorem Itp.mk' {p : Nat} {t : List (List Int)} {x y v : Int} (hp : IsPrime p) (hn : t.length ≤ p) (h0 : 0 ≤ v) (h1 : v < p) (hd : (p : Int) ∣ v - S1 (fun i => BsV p t.length i x * S1 (fun j => BsV p t.length j y * (t.getD i []).getD j 0) t.length) t.length) : Itp p t x y v := by
  refine ⟨fun i => BsV p t.length i x, fun j => BsV p t.length j y, fun i hi => BsV.ok hp hi hn, fun j hj => BsV.ok hp hj hn, ?_⟩
  generalize S1 _ _ = s at *
  have hp2 := hp.1
  have h4 := Int.mul_ediv_add_emod s p
  have h5 := Int.emod_nonneg s (show (p : Int) ≠ 0 by omega)
  have h6 := Int.emod_lt_of_pos s (show (0 : Int) < p by omega)
  have h7 : (p : Int) ∣ v - s % p := by
    have e : v - s % p = v - s + p * (s / p) := by omega
    rw [e]
    exact Int.dvd_add hd (Int.dvd_mul_right _ _)
  have := small_dvd h7 (by omega) (by omega)
  omega
end Br.F

/-! ### zip of a list and a tuple -/
namespace Br
open PySem PySem.Spec PyProof.Rows L2
def ItzM (K : PySem.W.Frag) (a b : Addr) : It where
  go := fun i H => ∃ (xs ys : List V), SqL K H a xs ∧ SqT K H b ys ∧ i < xs.length ∧ i < ys.length
  yld := fun i H v H' => ∃ (p : Addr) (x y : V), v = .ref p ∧ H p = none ∧ H' = upd H p (.tup [x, y]) ∧ (∀ xs, SqL K H a xs → xs[i]? = some x) ∧ (∀ ys, SqT K H b ys → ys[i]? = some y)
  stop := fun i H => ∃ (xs ys : List V), SqL K H a xs ∧ SqT K H b ys ∧ i ≤ xs.length ∧ i ≤ ys.length ∧ (i = xs.length ∨ i = ys.length)
def MixSt (a b z p q i1 i2 : Addr) (i : Nat) (h : Heap) : Prop :=
  IsZip h z p q .none ∧ IsTupOf2 h p (.ref i1) (.ref i2) ∧ (∃ u v, IsTupOf2 h q u v) ∧ h.IsListIter i1 a i ∧ h.IsTupleIter i2 b i
theorem MixSt.sizes {a b z p q i1 i2 : Addr} {i : Nat} {h : Heap} (m : MixSt a b z p q i1 i2 i h) : z < h.objs.size ∧ p < h.objs.size ∧ q < h.objs.size ∧ i1 < h.objs.size ∧ i2 < h.objs.size := by
  obtain ⟨e1, e2, ⟨_, _, e3⟩, ⟨_, e4, _⟩, ⟨_, e5, _⟩⟩ := m
  exact ⟨Heap.lt_size e1, Heap.lt_size e2, Heap.lt_size e3, Heap.lt_size e4, Heap.lt_size e5⟩
theorem in5 {c z p q i1 i2 : Addr} (h : c ∈ [z, p, q, i1, i2]) : c = z ∨ c = p ∨ c = q ∨ c = i1 ∨ c = i2 := by simpa using h
theorem turn_mix {P : Program} {w : World} {K : PySem.W.Frag} {elts : List Expr} {kk : Nat} {tpos : Pos} {a b z p q i1 i2 : Addr} (S : ZipSep2 z p q i1 i2 [i1, a] [i2, b]) :
    Turn P w K (.Tuple elts kk tpos) (ItzM K a b) [z, p, q, i1, i2] z (MixSt a b z p q i1 i2) := by
  have ha : a ≠ i1 ∧ b ≠ i2 ∨ True := .inr trivial
  refine ⟨by simp, ?obj, ?keep, ?item, ?done, ?self⟩
  case obj =>
    intro i h st c hc
    obtain ⟨e1, e2, ⟨_, _, e3⟩, ⟨o4, e4, _, d4⟩, ⟨o5, e5, _, d5⟩⟩ := st
    rcases in5 hc with rfl | rfl | rfl | rfl | rfl
    · exact ⟨_, e1, fun _ z => nomatch z⟩
    · exact ⟨_, e2, fun _ z => nomatch z⟩
    · exact ⟨_, e3, fun _ z => nomatch z⟩
    · exact ⟨_, e4, fun _ z => by rw [d4] at z; cases z⟩
    · exact ⟨_, e5, fun _ z => by rw [d5] at z; cases z⟩
  case keep =>
    intro i h h' st k
    obtain ⟨e1, e2, ⟨u, v, e3⟩, e4, e5⟩ := st
    exact ⟨k _ (by simp) _ e1, k _ (by simp) _ e2, ⟨u, v, k _ (by simp) _ e3⟩, e4.at fun o => k _ (by simp) o, e5.at fun o => k _ (by simp) o⟩
  case item =>
    intro X hP hw hK hc i pins s σ H E I hf st hg
    subst hP hw hK
    have sz := st.sizes
    obtain ⟨e1, e2, ⟨u, v, e3⟩, e4, e5⟩ := st
    obtain ⟨xs, ys, hx, hy, lx, ly⟩ := hg
    obtain ⟨us, rx, p1, _⟩ := I.list hx
    obtain ⟨ws, ry, p2, _⟩ := I.tuple hy
    have nx := rx.length
    have ny := ry.length
    have hd : X.A.in1.handled = none := I.ok.hd hc
    have na : a ≠ i1 := fun e => by
      obtain ⟨o, eo, co, _⟩ := e4
      obtain ⟨o', _, eo', co', _⟩ := p1
      rw [e, eo] at eo'
      cases eo'
      rw [co] at co'
      simp at co'
    have nb : b ≠ i2 := fun e => by
      obtain ⟨o, eo, co, _⟩ := e5
      obtain ⟨o', eo', co', _⟩ := p2
      rw [e, eo] at eo'
      cases eo'
      rw [co] at co'
      simp at co'
    refine wpAny_pyNext_zipD2_item S (Draws.list hd i1 a na us.toArray) (Draws.tuple hd i2 b nb ws.toArray) e1 e2 e3 ⟨e4, p1.isList⟩ ⟨e5, p2⟩ (by simp; omega) (by simp; omega) ?_
    intro x1 x2 h1 tk q1 q2 z1 t1 s1 s2 nw hs hk
    refine ⟨_, rfl, wpAny_letOwnedTupleGo_zip (s := { s with heap := h1, toks := tk }) z1 fun h2 z2 sb => ?_⟩
    obtain ⟨x, gx⟩ : ∃ x, xs[i]? = some x := ⟨_, List.getElem?_eq_getElem lx⟩
    obtain ⟨y, gy⟩ : ∃ y, ys[i]? = some y := ⟨_, List.getElem?_eq_getElem ly⟩
    obtain ⟨ux, gux, rux⟩ := rx.get gx
    obtain ⟨uy, guy, ruy⟩ := ry.get gy
    have ex : x1 = ux := by
      rw [List.getElem?_toArray, gux] at q1
      exact (Option.some.inj q1).symm
    have ey : x2 = uy := by
      rw [List.getElem?_toArray, guy] at q2
      exact (Option.some.inj q2).symm
    subst ex ey
    have ne : ∀ {c : Addr}, c < s.heap.objs.size → s.heap.objs.size ≠ c := fun h => Nat.ne_of_gt h
    have new2 : h2.get? s.heap.objs.size = some { cls := .type "tuple", data := .seq #[x1, x2] } := (sb.2 _ (ne sz.1)).trans nw
    have kp : ∀ c o, c ∉ [z, p, q, i1, i2] → s.heap.get? c = some o → h2.get? c = some o := fun c o hc e => by
      have m : ∀ d, d ∈ [z, p, q, i1, i2] → c ≠ d := fun d hd e => hc (e ▸ hd)
      exact (sb.2 c (m z (by simp))).trans (hk c o (m z (by simp)) (m q (by simp)) (m i1 (by simp)) (m i2 (by simp)) e)
    have ok : ObjOk X.prog X.w (upd H s.heap.objs.size (.tup [x, y])) h2 s.heap.objs.size (.tup [x, y]) :=
      ⟨(show 2 ≤ sizeLine by decide), [x1, x2], .cons rux (.cons ruy .nil), ⟨_, new2, rfl, 0, rfl⟩⟩
    have J := I.turnedNew (t' := tk) kp hf (Nat.le_refl _) ok
    refine ⟨.ref s.heap.objs.size, _, J, rfl, ⟨_, x, y, rfl, I.hok.fresh (Nat.le_refl _), rfl, fun l hl => by rw [I.list_inj hl hx]; exact gx, fun l hl => by rw [I.tuple_inj hl hy]; exact gy⟩, ?_, fun c hcm => ?_⟩
    · refine ⟨z2, (sb.2 _ S.TIz).trans (hk _ _ S.TIz S.TITO S.TIi1 S.TIi2 e2), ⟨_, _, (sb.2 _ S.TOz).trans t1⟩, s1.1.at fun o e => (sb.2 _ S.zi1.symm).trans e, s2.1.at fun o e => (sb.2 _ S.zi2.symm).trans e⟩
    · rw [upd_ne]
      · exact (hf c hcm).1
      · rcases in5 hcm with rfl | rfl | rfl | rfl | rfl
        · exact (ne sz.1).symm
        · exact (ne sz.2.1).symm
        · exact (ne sz.2.2.1).symm
        · exact (ne sz.2.2.2.1).symm
        · exact (ne sz.2.2.2.2).symm
  case done =>
    intro X hP hw hK hc i pins s σ H E I hf st hg
    subst hP hw hK
    obtain ⟨e1, e2, ⟨u, v, e3⟩, e4, e5⟩ := st
    obtain ⟨xs, ys, hx, hy, lx, ly, hend⟩ := hg
    obtain ⟨us, rx, p1, _⟩ := I.list hx
    obtain ⟨ws, ry, p2, _⟩ := I.tuple hy
    have nx := rx.length
    have ny := ry.length
    have hd : X.A.in1.handled = none := I.ok.hd hc
    have na : a ≠ i1 := fun e => by
      obtain ⟨o, eo, co, _⟩ := e4
      obtain ⟨o', _, eo', co', _⟩ := p1
      rw [e, eo] at eo'
      cases eo'
      rw [co] at co'
      simp at co'
    have nb : b ≠ i2 := fun e => by
      obtain ⟨o, eo, co, _⟩ := e5
      obtain ⟨o', eo', co', _⟩ := p2
      rw [e, eo] at eo'
      cases eo'
      rw [co] at co'
      simp at co'
    refine wpAny_pyNext_zipD2_end S (Draws.list hd i1 a na us.toArray) (Draws.tuple hd i2 b nb ws.toArray) e1 e2 e3 ⟨e4, p1.isList⟩ ⟨e5, p2⟩ (by simp; omega) (by simp; omega) (by simp; omega) ?_
    intro h1 tk hk
    exact ⟨rfl, I.turnedL (t' := tk) (ch := [z, p, q, i1, i2]) (fun c o hc e => by
      have m : ∀ d, d ∈ [z, p, q, i1, i2] → c ≠ d := fun d hd e => hc (e ▸ hd)
      exact hk c o (m z (by simp)) (m q (by simp)) (m i1 (by simp)) (m i2 (by simp)) e) hf⟩
  case self => exact fun A i s Q E st h => wpAny_pyIter_zip st.1 h
def iZipM (K : PySem.W.Frag) (ta : TA) : TI := fun σ H R => ta σ H fun vs H1 => ∃ a b xs ys, vs = [.ref a, .ref b] ∧ SqL K H1 a xs ∧ SqT K H1 b ys ∧ R (ItzM K a b) H1
theorem pi_zipM {X : Cx} {e e2 : Expr} {ta : TA} {p pos tpos : Pos} {elts : List Expr} {kk : Nat} (hg : Gl X "zip") (hm : X.mg "zip" = none) (ha : PA X [e, e2] ta)
    (hs : starEach [e, e2] X.env = (false, eval e X.env) :: starEach [e2] X.env := by rfl) (hpl : (backTo pos (starEach [e2] X.env)).any (·.1) = false := by rfl) :
    PI X (.Tuple elts kk tpos) (.Call (.Name "zip" p) [e, e2] [] pos) (iZipM X.K ta) := by
  refine ⟨fun pins s σ H R I h => Call_ (ld_blt I hg hm PyProof.Rows.boot_zip (PyProof.Rows.callWith_type1 (thn (ha.run pos pins s σ H _ I h) ?_) hs hpl))⟩
  rintro us s1 ⟨vs, H1, I1, r1, a, b, xs, ys, rfl, hx, hy, go⟩
  obtain ⟨u1, u2, rfl, ra, rb⟩ : ∃ u1 u2, us = [u1, u2] ∧ RelV (.ref a) u1 ∧ RelV (.ref b) u2 := by
    cases r1 with
    | cons r rr =>
      cases rr with
      | cons r' rr =>
        cases rr
        exact ⟨_, _, rfl, r, r'⟩
  cases (show u1 = Value.ref a from ra)
  cases (show u2 = Value.ref b from rb)
  obtain ⟨us, rx, p1, _⟩ := I1.list hx
  obtain ⟨ws, ry, p2, _⟩ := I1.tuple hy
  have la : a < s1.heap.objs.size := p1.lt
  have lb : b < s1.heap.objs.size := by
    obtain ⟨_, e, _⟩ := id p2
    exact Heap.lt_size e
  refine zip_begins2 (begins_list a us.toArray) (begins_tuple b ws.toArray) p1.isList p2 ?_
  intro h1 hz hp hq g1 g2 hsz hk
  refine wpAny_pyIter_zip hz ?_
  have sep := zip_sep2 (N := s1.heap.objs.size) (fp1 := [a]) (fp2 := [b]) (fun c hc => by
    have e : c = a := by simpa using hc
    rw [e]; exact la) (fun c hc => by
    have e : c = b := by simpa using hc
    rw [e]; exact lb)
  refine ⟨_, _, _, _, H1, rfl, I1.kept (t' := s1.toks) hk, turn_mix sep, ⟨hz, hp, ⟨_, _, hq⟩, ⟨_, g1, rfl, rfl⟩, ⟨_, g2, rfl, rfl⟩⟩, fun c hc => ?_, go⟩
  have hle : s1.heap.objs.size ≤ c := by
    rcases in5 hc with e | e | e | e | e
    · rw [e]; exact Nat.le_add_right _ _
    · rw [e]; exact Nat.le_add_right _ _
    · rw [e]; exact Nat.le_add_right _ _
    · rw [e]; exact Nat.le_refl _
    · rw [e]; exact Nat.le_add_right _ _
  exact I1.fpOk hle (I1.hok.fresh hle)
theorem walk_mix {K : PySem.W.Frag} {a b : Addr} {xs ys : List V} {n : Nat} (h1 : xs.length = n) (h2 : ys.length = n) : Walk (ItzM K a b) n (fun H => SqL K H a xs ∧ SqT K H b ys) (YPair (fun i => xs[i]?) (fun i => ys[i]?)) := by
  refine ⟨fun i H hi q => ⟨xs, ys, q.1, q.2, by omega, by omega⟩, fun H q => ⟨xs, ys, q.1, q.2, by omega, by omega, by omega⟩, fun i H v H' hi q y => ?_⟩
  obtain ⟨p, x, y, e1, e2, e3, e4, e5⟩ := y
  exact ⟨p, x, y, e1, e2, e3, e4 _ q.1, e5 _ q.2⟩
/-- a for, a comprehension by a walk -/
theorem x_forI {wi : TI} {g : TG} {tb : TS} {D : Ends} {σ : L2.St} {H : Hp} {J : It} {n : Nat} {G : Hp → Prop} {Y : Nat → Hp → V → Hp → Prop} (hw : ∀ R : It → Hp → Prop, R J H → wi σ H R) (w : Walk J n G Y) (P : Nat → L2.St → Hp → Prop) (h0 : P 0 σ H)
    (hG : ∀ i σ' H', i ≤ n → P i σ' H' → G H') (hs : ∀ i x σ' H' H2, i < n → P i σ' H' → Y i H' x H2 → g x σ' H2 fun σ2 H3 => tb ⟨P (i + 1), D.rt, D.nx, P (i + 1)⟩ σ2 H3) (hd : ∀ σ' H', P n σ' H' → D.nx σ' H') : tFor wi g tb D σ H :=
  hw _ (for_it w P h0 hG hs hd)
theorem x_lcI {wi : TI} {g : TG} {te : TE} {vs : List Nat} {Q : VK} {σ : L2.St} {H : Hp} {J : It} {n : Nat} {G : Hp → Prop} {Y : Nat → Hp → V → Hp → Prop} (hw : ∀ R : It → Hp → Prop, R J H → wi σ H R) (w : Walk J n G Y) (P : Addr → Nat → Hp → Prop) (h0 : ∀ p, H p = none → P p 0 (upd H p (.lst [])))
    (hG : ∀ p i H', i ≤ n → H p = none → P p i H' → G H')
    (hs : ∀ p i x H' H2, i < n → H p = none → P p i H' → Y i H' x H2 → g x (wipe σ vs) H2 fun σ2 H3 => wipe σ2 vs = wipe σ vs ∧ te σ2 H3 fun y H4 => ∃ acc, H4 p = some (.lst acc) ∧ acc.length < sizeLine ∧ P p (i + 1) (upd H4 p (.lst (acc ++ [y]))))
    (hg : ∀ x σ' H' (R R' : L2.St → Hp → Prop), (∀ σ2 H2, R σ2 H2 → R' σ2 H2) → g x σ' H' R → g x σ' H' R') (hd : ∀ p H', H p = none → P p n H' → Q (.ref p) H') : tLc wi g tYes te vs σ H Q := by
  refine hw _ fun p hp => ?_
  refine lc_it w (Qd := fun H' => Q (.ref p) H') (P p) (h0 p hp) (fun i H' hi q => hG p i H' hi hp q) (fun i x H' H2 hi q y => ?_) fun H' q => hd p H' hp q
  refine hg _ _ _ _ _ (fun σ2 H3 z => ?_) (hs p i x H' H2 hi hp q y)
  refine ⟨z.1, ?_⟩
  unfold tYes
  exact iteT z.2
/-- a comprehension of truths, item by item -/
theorem x_lcB {wi : TI} {te : TE} {vs : List Nat} {j : Nat} {Q : VK} {σ : L2.St} {H : Hp} {J : It} {G : Hp → Prop} {xs : List V} (f : Nat → Bool) (hw : ∀ R : It → Hp → Prop, R J H → wi σ H R) (w : Walk J xs.length G (YAt xs)) (hn : xs.length ≤ 100000)
    (hG : ∀ H', Same H H' → G H') (hv : ∀ x, wipe ((wipe σ vs).set j (some x)) vs = wipe σ vs)
    (he : ∀ (i : Nat) x H', Same H H' → xs[i]? = some x → ∀ R : VK, (∀ H2, Same H' H2 → R (.bl (f i)) H2) → te ((wipe σ vs).set j (some x)) H' R)
    (hd : ∀ p H', H p = none → Same H H' → H' p = some (.lst (((List.range xs.length).map f).map V.bl)) → Q (.ref p) H') : tLc wi (gName j) tYes te vs σ H Q := by
  refine x_lcI hw w (fun p i H' => Same H H' ∧ H' p = some (.lst (((List.range i).map f).map V.bl))) (fun p hp => ⟨same_upd hp, upd_same⟩) (fun p i H' _ _ z => hG H' z.1) ?_ (fun x σ' H' R R' hr h => hr _ _ h) fun p H' hp z => hd p H' hp z.1 z.2
  rintro p i x H' H2 hi hp ⟨hs, hl⟩ ⟨rfl, hx⟩
  refine x_gName ⟨hv x, he i x _ hs hx _ fun H3 hs3 => ?_⟩
  refine ⟨_, hs3 _ _ hl, lt_line (by simp; omega), sput (hs.trans hs3) hp, ?_⟩
  rw [upd_same, List.range_succ, List.map_append, List.map_append]
  rfl
theorem x_all {K : PySem.W.Frag} {Q : VK} {H : Hp} {p : Addr} {bs : List Bool} (h : H p = some (.lst (bs.map V.bl))) (q : Q (.bl (bs.all id)) H) : rAll K [.ref p] H Q := ⟨p, bs, rfl, sq_of h, q⟩
theorem x_any {K : PySem.W.Frag} {Q : VK} {H : Hp} {p : Addr} {bs : List Bool} (h : H p = some (.lst (bs.map V.bl))) (q : Q (.bl (bs.any id)) H) : rAny K [.ref p] H Q := ⟨p, bs, rfl, sq_of h, q⟩
theorem all_range {n : Nat} {f : Nat → Bool} (h : ∀ i, i < n → f i = true) : ((List.range n).map f).all id = true := by
  rw [List.all_eq_true]
  intro b hb
  obtain ⟨i, hi, rfl⟩ := List.mem_map.mp hb
  exact h i (List.mem_range.mp hi)
/-- the same, over something made on the way -/
theorem x_lcB0 {wi : TI} {te : TE} {vs : List Nat} {j : Nat} {Q : VK} {σ : L2.St} {H : Hp} {xs : List V} (f : Nat → Bool) (hn : xs.length ≤ 100000)
    (hw : ∀ R : It → Hp → Prop, (∀ (J : It) (G : Hp → Prop) (H1 : Hp), Same H H1 → Walk J xs.length G (YAt xs) → (∀ H', Same H1 H' → G H') → R J H1) → wi σ H R) (hv : ∀ x, wipe ((wipe σ vs).set j (some x)) vs = wipe σ vs)
    (he : ∀ (i : Nat) x H', Same H H' → xs[i]? = some x → ∀ R : VK, (∀ H2, Same H' H2 → R (.bl (f i)) H2) → te ((wipe σ vs).set j (some x)) H' R)
    (hd : ∀ p H', Same H H' → H' p = some (.lst (((List.range xs.length).map f).map V.bl)) → Q (.ref p) H') : tLc wi (gName j) tYes te vs σ H Q := by
  refine hw _ fun J G H1 s1 w hG => ?_
  exact x_lcB (wi := fun _ H R => R J H) (H := H1) f (fun R r => r) w hn hG hv (fun i x H' s hx R hR => he i x H' (s1.trans s) hx R hR) fun p H' _ s h => hd p H' (s1.trans s) h
end Br

/-! ### tables in the heap -/
namespace Br
open PySem PySem.Spec PyProof.Rows L2 Br.F
theorem map_app {xs : List Int} {y : Int} {H : Hp} {a : Addr} : (L2.upd H a (.lst (xs.map V.int ++ [.int y]))) a = some (.lst ((xs ++ [y]).map V.int)) := by rw [upd_same, List.map_append]; rfl
def TabAt (K : PySem.W.Frag) (H : Hp) (a : Addr) (t : List (List Int)) : Prop := ∃ as : List Addr, SqT K H a (as.map V.ref) ∧ as.length = t.length ∧ ∀ (i : Nat) r b, t[i]? = some r → as[i]? = some b → SqT K H b (r.map V.int)
theorem TabAt.same {K : PySem.W.Frag} {H H' : Hp} {a : Addr} {t : List (List Int)} (h : TabAt K H a t) (s : Same H H') : TabAt K H' a t := by
  obtain ⟨as, h1, h2, h3⟩ := h
  exact ⟨as, seqT s h1, h2, fun i r b e1 e2 => seqT s (h3 i r b e1 e2)⟩
structure IsTab (p : Nat) (t : List (List Int)) : Prop where
  pos : 1 ≤ t.length
  le : t.length ≤ p
  rows : ∀ (i : Nat) r, t[i]? = some r → r.length = t.length ∧ Rg 0 p r
theorem get_getD {l : List Int} {i : Nat} (h : i < l.length) : l[i]? = some (l.getD i 0) := by rw [List.getD_eq_getElem?_getD, List.getElem?_eq_getElem h]; rfl
theorem getD_of {l : List Int} {i : Nat} {z : Int} (h : l[i]? = some z) : l.getD i 0 = z := by rw [List.getD_eq_getElem?_getD, h]; rfl
theorem dvd_step {p ab U d : Int} (h : p ∣ ab - U) : p ∣ ab * d % p - U * d := by
  obtain ⟨u, hu⟩ := h
  have h4 := Int.mul_ediv_add_emod (ab * d) p
  refine ⟨u * d - ab * d / p, ?_⟩
  have e : ab = U + p * u := by omega
  grind
theorem TabAt.get {K : PySem.W.Frag} {H : Hp} {a : Addr} {t : List (List Int)} {as : List Addr} (h : as.length = t.length) (h3 : ∀ (i : Nat) r b, t[i]? = some r → as[i]? = some b → SqT K H b (r.map V.int)) {i : Nat} (hi : i < t.length) : ∃ r b, t[i]? = some r ∧ as[i]? = some b ∧ SqT K H b (r.map V.int) :=
  ⟨_, _, List.getElem?_eq_getElem hi, List.getElem?_eq_getElem (by omega), h3 i _ _ (List.getElem?_eq_getElem hi) (List.getElem?_eq_getElem (by omega))⟩
end Br

/-! ### match over tuples that begin with a word -/
namespace Br
open PySem PySem.Spec PyProof.Rows L2
/-- the values that captures bind, by name -/
def capB : List Pattern → List Value → List (Str × Value)
  | .MatchAs none (some x) _ :: ps, u :: us => (x, u) :: capB ps us
  | .MatchAs none none _ :: ps, _ :: us => capB ps us
  | _, _ => []
def isCaps : List Pattern → Bool
  | [] => true
  | .MatchAs none _ _ :: ps => isCaps ps
  | _ => false
/-- the slots behind captures -/
def bindS : List (Option Nat) → List V → L2.St → L2.St
  | some i :: is, v :: vs, σ => bindS is vs (σ.set i (some v))
  | none :: is, _ :: vs, σ => bindS is vs σ
  | _, _, σ => σ
theorem each_caps {M : Model} {A : Around} {E : Value → Shared → Prop} {s : Shared} {env : Env} : ∀ {ps : List Pattern} {us : List Value} {Q : Option (List (Str × Value)) → Shared → Prop}, isCaps ps = true → us.length = ps.length → Q (some (capB ps us)) s → wpAny M A (matchEach ps env us) Q E s
  | [], us, Q, _, _, h => by
    have e : capB [] us = [] := by cases us <;> rfl
    rw [e] at h
    exact wpAny_matchEach_nil h
  | .MatchAs none nm pos :: ps, u :: us, Q, hc, hl, h => by
    refine wpAny_matchEach_cons (wpAny_matchPattern_Capture (each_caps (ps := ps) hc (by simpa using hl) ?_)) rfl
    cases nm with
    | none => exact h
    | some x => exact h
  | .MatchAs none nm pos :: ps, [], Q, hc, hl, h => by simp at hl
  | .MatchAs (some p) nm pos :: ps, us, Q, hc, hl, h => by simp [isCaps] at hc
  | .MatchValue .. :: ps, us, Q, hc, hl, h => by simp [isCaps] at hc
  | .MatchSingleton .. :: ps, us, Q, hc, hl, h => by simp [isCaps] at hc
  | .MatchSequence .. :: ps, us, Q, hc, hl, h => by simp [isCaps] at hc
  | .MatchMapping .. :: ps, us, Q, hc, hl, h => by simp [isCaps] at hc
  | .MatchClass .. :: ps, us, Q, hc, hl, h => by simp [isCaps] at hc
  | .MatchStar .. :: ps, us, Q, hc, hl, h => by simp [isCaps] at hc
  | .MatchOr .. :: ps, us, Q, hc, hl, h => by simp [isCaps] at hc
/-- captures into slots -/
structure PCap (X : Cx) (ps : List Pattern) (is : List (Option Nat)) : Prop where
  caps : isCaps ps = true
  run : ∀ (pins : List (Addr × Obj)) (s : Shared) (σ : L2.St) (H : Hp) (vs : List V) (us : List Value), Inv X pins σ H s → Vals vs us → us.length = ps.length →
    wpAny (model X.prog X.w) X.A (assignInOrder ((capB ps us).map fun (n, _) => bindName X.env n) ((capB ps us).map (·.2))) (fun _ s' => Inv X pins (bindS is vs σ) H s') X.xe s
section
variable {X : Cx}
theorem pcap_nil : PCap X [] [] := ⟨rfl, fun pins s σ H vs us I r hl => by
  have e : us = [] := List.length_eq_zero_iff.mp hl
  subst e
  cases r
  exact wpAny_assignInOrder_none I⟩
theorem pcap_name (i : Nat) {x : Str} {pos : Pos} {ps : List Pattern} {is : List (Option Nat)} (hN : X.N.Nodup) (hi : X.N[i]? = some x) (hx : Loc X.env.scope x) (h : PCap X ps is) (hf : X.fn x = true ∨ X.env.scope.names.lookup x = some .local := by first | exact .inl rfl | exact .inr rfl) :
    PCap X (.MatchAs none (some x) pos :: ps) (some i :: is) := ⟨h.caps, fun pins s σ H vs us I r hl => by
  cases r with
  | nil => simp at hl
  | cons rv rr =>
    refine wpAny_assignInOrder_more (wpAny_bindName (store_ok I hN hi hx rv (fun s' I' => ?_) hf))
    exact h.run pins s' _ H _ _ I' rr (by simpa using hl)⟩
theorem pcap_wild {pos : Pos} {ps : List Pattern} {is : List (Option Nat)} (h : PCap X ps is) : PCap X (.MatchAs none none pos :: ps) (none :: is) := ⟨h.caps, fun pins s σ H vs us I r hl => by
  cases r with
  | nil => simp at hl
  | cons rv rr => exact h.run pins s _ H _ _ I rr (by simpa using hl)⟩
/-- the cases of a match, asked of a value -/
structure PCs (X : Cx) (cs : List MatchCase) (t : V → TS) : Prop where
  run : ∀ (first : Bool) (pins : List (Addr × Obj)) (s : Shared) (σ : L2.St) (H : Hp) (D : Ends) (v : V) (u : Value), Inv X pins σ H s → RelV v u → t v D σ H → wpAny (model X.prog X.w) X.A (matchCases cs X.env u first) (SP X pins D) X.xe s
def tMatch (te : TE) (t : V → TS) : TS := fun D σ H => te σ H fun v H1 => t v D σ H1
theorem ps_match {e : Expr} {te : TE} {cs : List MatchCase} {t : V → TS} {pos : Pos} (he : PE X e te) (hc : PCs X cs t) : PS X (.Match e cs pos) (tMatch te t) :=
  ⟨fun pins s σ H D I h => wpAny_Match (thn (he.run pins s σ H _ I h) fun u s1 ⟨v, H1, I1, r, q⟩ => hc.run true pins s1 σ H1 D v u I1 r q)⟩
def tNoCase : V → TS := fun _ D σ H => D.nx σ H
theorem pcs_nil : PCs X [] tNoCase := ⟨fun _ _ _ σ H _ _ _ I _ h => wpAny_matchCases_nil ⟨σ, H, I, h⟩⟩
def tElse (t : TS) : V → TS := fun _ => t
theorem pcs_else {pos : Pos} {body : List Stmt} {rest : List MatchCase} {t : TS} (hb : PSs X body t) : PCs X (⟨.MatchAs none none pos, none, body⟩ :: rest) (tElse t) :=
  ⟨fun _ pins s σ H D v u I r h => wpAny_matchCases_cons (wpAny_matchPattern_Capture (wpAny_assignInOrder_none (hb.run pins s σ H D I h)))⟩
/-- a tuple of n parts that begins with the word -/
def tSeqW (K : PySem.W.Frag) (r : R2) (n : Nat) (word : Str) (is : List (Option Nat)) (body : TS) (rest : V → TS) : V → TS := fun v D σ H => ∃ (a : Addr) (xs : List V), v = .ref a ∧ SqT K H a xs ∧
  ((xs.length ≠ n ∧ rest v D σ H) ∨ ∃ y ys, xs = y :: ys ∧ xs.length = n ∧ r y (.str word) H fun z H1 => ∃ k, z = .bl k ∧ if k = true then body D (bindS is ys σ) H1 else rest v D σ H1)
theorem pcs_seq {r : R2} {n : Nat} {word : Str} {j : Nat} {p1 p2 p3 : Pos} {ps : List Pattern} {is : List (Option Nat)} {body : List Stmt} {rest : List MatchCase} {tb : TS} {tr : V → TS} (hc : X.calm = true) (ho : OpR X (compareOp .Eq) r) (hp : PCap X ps is) (hb : PSs X body tb) (hr : PCs X rest tr) (hn : ps.length + 1 = n := by rfl)
    (hs : (Pattern.MatchValue (.Constant (.str word) j p1) p2 :: ps).findIdx? (·.isStar) = none := by rfl) (hw : ((Pattern.MatchValue (.Constant (.str word) j p1) p2 :: ps).all fun p => p.isWildcard || (p.isStar && p.names.isEmpty)) = false := by rfl) :
    PCs X (⟨.MatchSequence (.MatchValue (.Constant (.str word) j p1) p2 :: ps) p3, none, body⟩ :: rest) (tSeqW X.K r n word is tb tr) := by
  refine ⟨fun first pins s σ H D v u I rv h => ?_⟩
  obtain ⟨a, xs, rfl, hx, h⟩ := h
  cases (show u = Value.ref a from rv)
  obtain ⟨its, ri, ht, hz⟩ := I.tuple hx
  have hl := ri.length
  have hfit : ((its.toArray.size : Nat) : Int) < 2 ^ 63 := by
    have h1 : its.length ≤ sizeLine := by rw [← hl]; exact hz
    have h2 : sizeLine < 2 ^ 63 := by decide
    have h3 : its.toArray.size < 2 ^ 63 := Nat.lt_of_le_of_lt (by simpa using h1) h2
    omega
  rcases h with ⟨hne, q⟩ | ⟨y, ys, rfl, hxl, q⟩
  · refine wpAny_matchCases_cons (matchSeq_tuple_miss ht hfit (by simp; omega) ?_ hs hw)
    exact hr.run false pins _ σ H D (.ref a) _ (I.tok _) rfl q
  · cases ri with
    | cons ry rys =>
      rename_i uy uys
      have hly := rys.length
      have sz : (uy :: uys).toArray.size = ps.length + 1 := by simp at hxl ⊢; omega
      refine wpAny_matchCases_cons (matchSeq_tuple_hit ht hfit (by simpa using sz) ?_ hs hw)
      have e : (Pattern.MatchValue (.Constant (.str word) j p1) p2 :: ps).length = (uy :: uys).toArray.size := sz.symm
      rw [e]
      refine unpackItems_tuple (I.ok.hd hc) ht fun h' hk => ?_
      have I2 : Inv X pins σ H { s with heap := h', toks := s.toks + 1 + 1 } := I.kept fun b o e => hk b o (Nat.ne_of_lt (Heap.lt_size e)) e
      refine wpAny_matchEach_cons (wpAny_matchPattern_Value ?_) rfl
      refine Calls.Constant_str ?_
      refine thn (ho pins _ σ H y (.str word) uy _ _ (I2.tok _) ry ⟨_, rfl⟩ q) fun c s3 ⟨z, H3, I3, rz, k, ez, q3⟩ => ?_
      subst ez
      cases rz
      refine wpAny_truthy_bool ?_
      cases k with
      | false =>
        rw [if_neg Bool.false_ne_true] at q3 ⊢
        exact hr.run false pins s3 σ H3 D (.ref a) _ I3 rfl q3
      | true =>
        rw [if_pos rfl] at q3 ⊢
        refine each_caps hp.caps (by simp at sz; exact sz) ?_
        refine thn (hp.run pins s3 σ H3 ys uys I3 rys (by simp at sz; exact sz)) fun _ s4 I4 => ?_
        exact hb.run pins s4 _ H3 D I4 q3
end
/-! ### steps of the reading -/
section
variable {σ : L2.St} {H : Hp} {D : Ends} {K : PySem.W.Frag} {v : V} {te : TE} {t : V → TS}
theorem x_match (h : te σ H fun v H1 => t v D σ H1) : tMatch te t D σ H := h
theorem x_else {t : TS} (h : t D σ H) : tElse t v D σ H := h
theorem x_noCase (h : D.nx σ H) : tNoCase v D σ H := h
theorem x_caseNo {r : R2} {n : Nat} {word : Str} {is : List (Option Nat)} {body : TS} {a : Addr} {xs : List V} (ha : SqT K H a xs) (hl : xs.length ≠ n) (h : t (.ref a) D σ H) : tSeqW K r n word is body t (.ref a) D σ H :=
  ⟨a, xs, rfl, ha, .inl ⟨hl, h⟩⟩
theorem x_caseW {n : Nat} {word w : Str} {is : List (Option Nat)} {body : TS} {a : Addr} {ys : List V} (ha : SqT K H a (.str w :: ys)) (hl : ys.length + 1 = n) (hw : w ≠ word) (h : t (.ref a) D σ H) : tSeqW K rEq n word is body t (.ref a) D σ H :=
  ⟨a, _, rfl, ha, .inr ⟨_, ys, rfl, hl, rfl, false, by rw [decide_eq_false (fun e => hw (V.str.inj e))], iteF h⟩⟩
theorem x_caseY {n : Nat} {word : Str} {is : List (Option Nat)} {body : TS} {a : Addr} {ys : List V} (ha : SqT K H a (.str word :: ys)) (hl : ys.length + 1 = n) (h : body D (bindS is ys σ) H) : tSeqW K rEq n word is body t (.ref a) D σ H :=
  ⟨a, _, rfl, ha, .inr ⟨_, ys, rfl, hl, rfl, true, by rw [decide_eq_true rfl], iteT h⟩⟩
end
end Br

/-! ### what `_law_equal` finds alike -/
namespace Br
open PySem PySem.Spec PyProof.Rows L2
/-- alike up to a depth -/
def Eqv (K : PySem.W.Frag) (H : Hp) : Nat → V → V → Prop
  | 0, _, _ => False
  | n + 1, v, u => (∃ i : Int, v = .int i ∧ u = .int i) ∨ (∃ x : Str, v = .str x ∧ u = .str x) ∨ (∃ b : Bool, v = .bl b ∧ u = .bl b) ∨ (v = .non ∧ u = .non) ∨
      (∃ (a b : Addr) (xs ys : List V), v = .ref a ∧ u = .ref b ∧ ((H a = some (.lst xs) ∧ H b = some (.lst ys)) ∨ (H a = some (.tup xs) ∧ H b = some (.tup ys))) ∧ xs.length = ys.length ∧ ys.length ≤ 100000 ∧ ∀ (i : Nat) x y, xs[i]? = some x → ys[i]? = some y → Eqv K H n x y)
theorem Eqv.mono {K : PySem.W.Frag} {H : Hp} : ∀ {n m : Nat} {v u : V}, n ≤ m → Eqv K H n v u → Eqv K H m v u
  | 0, _, _, _, _, h => h.elim
  | n + 1, m, v, u, hm, h => by
    obtain ⟨k, rfl⟩ : ∃ k, m = k + 1 := ⟨m - 1, by omega⟩
    rcases h with h | h | h | h | ⟨a, b, xs, ys, e1, e2, e3, e4, e5, e6⟩
    · exact .inl h
    · exact .inr (.inl h)
    · exact .inr (.inr (.inl h))
    · exact .inr (.inr (.inr (.inl h)))
    · exact .inr (.inr (.inr (.inr ⟨a, b, xs, ys, e1, e2, e3, e4, e5, fun i x y h1 h2 => Eqv.mono (by omega) (e6 i x y h1 h2)⟩)))
theorem Eqv.int {K : PySem.W.Frag} {H : Hp} {n : Nat} {i : Int} : Eqv K H (n + 1) (.int i) (.int i) := .inl ⟨i, rfl, rfl⟩
theorem Eqv.str {K : PySem.W.Frag} {H : Hp} {n : Nat} {x : Str} : Eqv K H (n + 1) (.str x) (.str x) := .inr (.inl ⟨x, rfl, rfl⟩)
theorem Eqv.bl {K : PySem.W.Frag} {H : Hp} {n : Nat} {b : Bool} : Eqv K H (n + 1) (.bl b) (.bl b) := .inr (.inr (.inl ⟨b, rfl, rfl⟩))
theorem Eqv.non {K : PySem.W.Frag} {H : Hp} {n : Nat} : Eqv K H (n + 1) .non .non := .inr (.inr (.inr (.inl ⟨rfl, rfl⟩)))
theorem Eqv.tup {K : PySem.W.Frag} {H : Hp} {n : Nat} {a b : Addr} {xs ys : List V} (h1 : H a = some (.tup xs)) (h2 : H b = some (.tup ys)) (hl : xs.length = ys.length) (hz : ys.length ≤ 100000) (h : ∀ (i : Nat) x y, xs[i]? = some x → ys[i]? = some y → Eqv K H n x y) : Eqv K H (n + 1) (.ref a) (.ref b) :=
  .inr (.inr (.inr (.inr ⟨a, b, xs, ys, rfl, rfl, .inr ⟨h1, h2⟩, hl, hz, h⟩)))
theorem Eqv.lst {K : PySem.W.Frag} {H : Hp} {n : Nat} {a b : Addr} {xs ys : List V} (h1 : H a = some (.lst xs)) (h2 : H b = some (.lst ys)) (hl : xs.length = ys.length) (hz : ys.length ≤ 100000) (h : ∀ (i : Nat) x y, xs[i]? = some x → ys[i]? = some y → Eqv K H n x y) : Eqv K H (n + 1) (.ref a) (.ref b) :=
  .inr (.inr (.inr (.inr ⟨a, b, xs, ys, rfl, rfl, .inl ⟨h1, h2⟩, hl, hz, h⟩)))
theorem Eqv.ints {K : PySem.W.Frag} {H : Hp} {n : Nat} {a b : Addr} {xs : List Int} (h1 : H a = some (.lst (xs.map V.int))) (h2 : H b = some (.lst (xs.map V.int))) (hz : xs.length ≤ 100000) : Eqv K H (n + 2) (.ref a) (.ref b) :=
  Eqv.lst h1 h2 rfl (by rw [List.length_map]; exact hz) fun i x y e1 e2 => by
    rw [e1] at e2
    cases e2
    obtain ⟨z, _, rfl⟩ := map_get e1
    exact .int
/-- a tuple of few parts is alike to itself -/
theorem Eqv.self2 {K : PySem.W.Frag} {H : Hp} {n : Nat} {a : Addr} {xs : List V} (h1 : H a = some (.tup xs)) (hz : xs.length ≤ 100000) (h : ∀ x, x ∈ xs → Eqv K H n x x) : Eqv K H (n + 1) (.ref a) (.ref a) :=
  Eqv.tup h1 h1 rfl hz fun i x y e1 e2 => by
    rw [e1] at e2
    cases e2
    exact h x (List.mem_of_getElem? e1)
end Br

/-! ### steps: what they are, where they stand, what they do -/
namespace Br
open PySem PySem.Spec PyProof.Rows L2 Br.F
inductive Fac where
  | cell (i : Nat)
  | inp (i : Nat)
inductive Stp where
  | add (t : Nat) (c : Int) (fs : List Fac)
  | scale (t : Nat) (u : Int)
  | swap (a b : Nat)
  | tab (t : Nat) (s : Int) (tb : List (List Int)) (a b : Nat)
def FacOk (cells inputs t : Nat) : Fac → Prop
  | .cell i => i < cells ∧ i ≠ t
  | .inp i => i < inputs
def StpOk (m cells inputs : Nat) : Stp → Prop
  | .add t c fs => t < cells ∧ 0 ≤ c ∧ c < m ∧ fs.length ≤ 3 ∧ ∀ f, f ∈ fs → FacOk cells inputs t f
  | .scale t u => t < cells ∧ 0 ≤ u ∧ u < m ∧ Int.gcd u m = 1
  | .swap a b => a < cells ∧ b < cells ∧ a ≠ b
  | .tab t s tb a b => t < cells ∧ a < cells ∧ b < cells ∧ t ≠ a ∧ t ≠ b ∧ a ≠ b ∧ (s = 1 ∨ s = m - 1) ∧ IsTab m tb ∧ tb.length ≤ 1000 ∧ IsPrime m
/-- where they stand: tuples alone -/
def FacAt (H : Hp) (a : Addr) : Fac → Prop
  | .cell i => H a = some (.tup [.str "cell", .int (i : Int)])
  | .inp i => H a = some (.tup [.str "input", .int (i : Int)])
def TbAt (H : Hp) (a : Addr) (t : List (List Int)) : Prop := ∃ as : List Addr, H a = some (.tup (as.map V.ref)) ∧ as.length = t.length ∧ ∀ (i : Nat) r b, t[i]? = some r → as[i]? = some b → H b = some (.tup (r.map V.int))
def StpAt (H : Hp) (a : Addr) : Stp → Prop
  | .add t c fs => ∃ (f : Addr) (as : List Addr), H a = some (.tup [.str "add", .int (t : Int), .int c, .ref f]) ∧ H f = some (.tup (as.map V.ref)) ∧ as.length = fs.length ∧ ∀ (i : Nat) x b, fs[i]? = some x → as[i]? = some b → FacAt H b x
  | .scale t u => H a = some (.tup [.str "scale", .int (t : Int), .int u])
  | .swap i j => H a = some (.tup [.str "swap", .int (i : Int), .int (j : Int)])
  | .tab t s tb i j => ∃ c : Addr, H a = some (.tup [.str "table", .int (t : Int), .int s, .ref c, .int (i : Int), .int (j : Int)]) ∧ TbAt H c tb
/-- every tuple stays -/
def Tups (H H' : Hp) : Prop := ∀ b xs, H b = some (.tup xs) → H' b = some (.tup xs)
theorem Tups.refl (H : Hp) : Tups H H := fun _ _ h => h
theorem Tups.trans {H H1 H2 : Hp} (a : Tups H H1) (b : Tups H1 H2) : Tups H H2 := fun c xs h => b c xs (a c xs h)
theorem Tups.same {H H' : Hp} (s : Same H H') : Tups H H' := fun b xs h => s b _ h
theorem Tups.put {H H' : Hp} {p : Addr} {o : HO} (s : Tups H H') (h : ∀ xs, H' p ≠ some (.tup xs)) : Tups H (upd H' p o) := fun b xs e => by
  have e' := s b xs e
  rw [upd_ne (fun z => h xs (by rw [← z]; exact e'))]
  exact e'
theorem no_tup {H : Hp} {p : Addr} (h : H p = none) : ∀ xs, H p ≠ some (.tup xs) := fun xs e => by rw [h] at e; cases e
theorem no_tupL {H : Hp} {p : Addr} {ys : List V} (h : H p = some (.lst ys)) : ∀ xs, H p ≠ some (.tup xs) := fun xs e => by rw [h] at e; cases e
theorem Tups.keep {H H' : Hp} {d : Addr} {ys : List V} (k : Keep d H H') (h : H d = some (.lst ys)) : Tups H H' := fun b xs e => k b _ e (ne_of e h (by intro z; cases z))
theorem FacAt.tups {H H' : Hp} {a : Addr} {f : Fac} (h : FacAt H a f) (s : Tups H H') : FacAt H' a f := by
  cases f with
  | cell i => exact s _ _ h
  | inp i => exact s _ _ h
theorem TbAt.tups {H H' : Hp} {a : Addr} {t : List (List Int)} (h : TbAt H a t) (s : Tups H H') : TbAt H' a t := by
  obtain ⟨as, h1, h2, h3⟩ := h
  exact ⟨as, s _ _ h1, h2, fun i r b e1 e2 => s _ _ (h3 i r b e1 e2)⟩
theorem StpAt.tups {H H' : Hp} {a : Addr} {x : Stp} (h : StpAt H a x) (s : Tups H H') : StpAt H' a x := by
  cases x with
  | add t c fs =>
    obtain ⟨f, as, h1, h2, h3, h4⟩ := h
    exact ⟨f, as, s _ _ h1, s _ _ h2, h3, fun i y b e1 e2 => (h4 i y b e1 e2).tups s⟩
  | scale t u => exact s _ _ h
  | swap i j => exact s _ _ h
  | tab t g tb i j =>
    obtain ⟨c, h1, h2⟩ := h
    exact ⟨c, s _ _ h1, h2.tups s⟩
/-- many of them -/
def StpsAt (H : Hp) (as : List Addr) (ss : List Stp) : Prop := as.length = ss.length ∧ ∀ (i : Nat) x b, ss[i]? = some x → as[i]? = some b → StpAt H b x
theorem StpsAt.tups {H H' : Hp} {as : List Addr} {ss : List Stp} (h : StpsAt H as ss) (s : Tups H H') : StpsAt H' as ss := ⟨h.1, fun i x b e1 e2 => (h.2 i x b e1 e2).tups s⟩
theorem StpsAt.get {H : Hp} {as : List Addr} {ss : List Stp} (h : StpsAt H as ss) {i : Nat} {b : Addr} (e : as[i]? = some b) : ∃ x, ss[i]? = some x ∧ StpAt H b x := by
  have hl := (List.getElem?_eq_some_iff.mp e).1
  have hl2 : i < ss.length := by rw [← h.1]; exact hl
  exact ⟨_, List.getElem?_eq_getElem hl2, h.2 i _ b (List.getElem?_eq_getElem hl2) e⟩
theorem StpsAt.snoc {H : Hp} {as : List Addr} {ss : List Stp} {b : Addr} {x : Stp} (h : StpsAt H as ss) (hx : StpAt H b x) : StpsAt H (as ++ [b]) (ss ++ [x]) := by
  refine ⟨by rw [List.length_append, List.length_append, h.1]; rfl, fun i y c e1 e2 => ?_⟩
  rcases snoc_at rfl e1 with ⟨h1, e1⟩ | ⟨h1, rfl⟩
  · rcases snoc_at rfl e2 with ⟨h2, e2⟩ | ⟨h2, rfl⟩
    · exact h.2 i y c e1 e2
    · have := h.1; omega
  · rcases snoc_at rfl e2 with ⟨h2, e2⟩ | ⟨h2, rfl⟩
    · have := h.1; omega
    · exact hx
/-- numbers of a modulus, so many -/
structure Mem (m n : Nat) (xs : List Int) : Prop where
  len : xs.length = n
  rg : Rg 0 m xs
theorem Mem.get {m n : Nat} {xs : List Int} (h : Mem m n xs) {i : Nat} (hi : i < n) : ∃ z, xs[i]? = some z ∧ xs.getD i 0 = z ∧ 0 ≤ z ∧ z < m := by
  have hl : i < xs.length := by rw [h.len]; exact hi
  refine ⟨xs[i], List.getElem?_eq_getElem hl, ?_, (h.rg _ (List.getElem_mem hl)).1, (h.rg _ (List.getElem_mem hl)).2⟩
  rw [List.getD_eq_getElem?_getD, List.getElem?_eq_getElem hl]; rfl
theorem Mem.set {m n : Nat} {xs : List Int} (h : Mem m n xs) {i : Nat} {z : Int} (h0 : 0 ≤ z) (h1 : z < m) : Mem m n (xs.set i z) :=
  ⟨by rw [List.length_set, h.len], fun y hy => by
    rcases List.mem_or_eq_of_mem_set hy with h2 | h2
    · exact h.rg y h2
    · rw [h2]; exact ⟨h0, h1⟩⟩
def facV (mem inp : List Int) : Fac → Int
  | .cell i => mem.getD i 0
  | .inp i => inp.getD i 0
def prodV (mem inp : List Int) : List Fac → Int
  | [] => 1
  | f :: fs => facV mem inp f * prodV mem inp fs
/-- the value of the table's polynomial, written out -/
def ItpV (p : Nat) (t : List (List Int)) (x y : Int) : Int := S1 (fun i => BsV p t.length i x * S1 (fun j => BsV p t.length j y * (t.getD i []).getD j 0) t.length) t.length % p
theorem ItpV.ok {p : Nat} {t : List (List Int)} {x y : Int} (hp : IsPrime p) (hn : t.length ≤ p) : Itp p t x y (ItpV p t x y) :=
  ⟨fun i => BsV p t.length i x, fun j => BsV p t.length j y, fun i hi => BsV.ok hp hi hn, fun j hj => BsV.ok hp hj hn, rfl⟩
def stepF (m : Nat) (inp mem : List Int) : Stp → List Int
  | .add t c fs => mem.set t ((mem.getD t 0 + c * prodV mem inp fs) % m)
  | .scale t u => mem.set t (mem.getD t 0 * u % m)
  | .swap a b => (mem.set a (mem.getD b 0)).set b (mem.getD a 0)
  | .tab t s tb a b => mem.set t ((mem.getD t 0 + s * ItpV m tb (mem.getD a 0) (mem.getD b 0)) % m)
theorem stepF_mem {m cells : Nat} {inp mem : List Int} (hm : 1 ≤ m) (h : Mem m cells mem) : ∀ {s : Stp} {inputs : Nat}, StpOk m cells inputs s → Mem m cells (stepF m inp mem s)
  | .add t c fs, _, _ => h.set (Int.emod_nonneg _ (by omega)) (Int.emod_lt_of_pos _ (by omega))
  | .scale t u, _, _ => h.set (Int.emod_nonneg _ (by omega)) (Int.emod_lt_of_pos _ (by omega))
  | .swap a b, _, ok => by
    obtain ⟨z, _, e1, z0, z1⟩ := h.get ok.1
    obtain ⟨y, _, e2, y0, y1⟩ := h.get ok.2.1
    show Mem m cells ((mem.set a (mem.getD b 0)).set b (mem.getD a 0))
    rw [e1, e2]
    exact (h.set y0 y1).set z0 z1
  | .tab t s tb a b, _, _ => h.set (Int.emod_nonneg _ (by omega)) (Int.emod_lt_of_pos _ (by omega))
def runF (m : Nat) (inp : List Int) (ss : List Stp) (mem : List Int) : List Int := ss.foldl (fun mem s => stepF m inp mem s) mem
theorem runF_snoc {m : Nat} {inp : List Int} {ss : List Stp} {s : Stp} {mem : List Int} : runF m inp (ss ++ [s]) mem = stepF m inp (runF m inp ss mem) s := by
  unfold runF
  rw [List.foldl_append]
  rfl
theorem runF_mem {m cells inputs : Nat} {inp : List Int} (hm : 1 ≤ m) : ∀ {ss : List Stp} {mem : List Int}, Mem m cells mem → (∀ s, s ∈ ss → StpOk m cells inputs s) → Mem m cells (runF m inp ss mem)
  | [], _, h, _ => h
  | s :: ss, mem, h, hs => runF_mem (mem := stepF m inp mem s) hm (stepF_mem hm h (hs s List.mem_cons_self)) fun x hx => hs x (List.mem_cons_of_mem _ hx)
theorem take_snoc {α : Type} {ss : List α} {i : Nat} {s : α} (h : ss[i]? = some s) : ss.take (i + 1) = ss.take i ++ [s] := by rw [List.take_add_one, h]; rfl
theorem FacAt.eqv {K : PySem.W.Frag} {H : Hp} {a : Addr} {f : Fac} (h : FacAt H a f) : Eqv K H 2 (.ref a) (.ref a) := by
  cases f with
  | cell i =>
    exact Eqv.self2 h (Nat.le_of_ble_eq_true rfl) fun x hx => by
      have e : x = .str "cell" ∨ x = .int (i : Int) := by simpa using hx
      rcases e with rfl | rfl
      · exact .str
      · exact .int
  | inp i =>
    exact Eqv.self2 h (Nat.le_of_ble_eq_true rfl) fun x hx => by
      have e : x = .str "input" ∨ x = .int (i : Int) := by simpa using hx
      rcases e with rfl | rfl
      · exact .str
      · exact .int
theorem StpAt.eqv {K : PySem.W.Frag} {H : Hp} {a : Addr} {m cells inputs : Nat} {s : Stp} (ok : StpOk m cells inputs s) (h : StpAt H a s) : Eqv K H 4 (.ref a) (.ref a) := by
  cases s with
  | add t c fs =>
    obtain ⟨f, as, h1, h2, h3, h4⟩ := h
    have hf : Eqv K H 3 (.ref f) (.ref f) := Eqv.self2 h2 (by rw [List.length_map, h3]; have := ok.2.2.2.1; omega) fun x hx => by
      obtain ⟨b, hb, rfl⟩ := List.mem_map.mp hx
      obtain ⟨i, hi⟩ := List.mem_iff_getElem?.mp hb
      have hl := (List.getElem?_eq_some_iff.mp hi).1
      exact (h4 i _ b (List.getElem?_eq_getElem (by omega)) hi).eqv
    exact Eqv.self2 h1 (Nat.le_of_ble_eq_true rfl) fun x hx => by
      have e : x = .str "add" ∨ x = .int (t : Int) ∨ x = .int c ∨ x = .ref f := by simpa using hx
      rcases e with rfl | rfl | rfl | rfl
      · exact .str
      · exact .int
      · exact .int
      · exact hf
  | scale t u =>
    exact Eqv.self2 h (Nat.le_of_ble_eq_true rfl) fun x hx => by
      have e : x = .str "scale" ∨ x = .int (t : Int) ∨ x = .int u := by simpa using hx
      rcases e with rfl | rfl | rfl
      · exact .str
      · exact .int
      · exact .int
  | swap i j =>
    exact Eqv.self2 h (Nat.le_of_ble_eq_true rfl) fun x hx => by
      have e : x = .str "swap" ∨ x = .int (i : Int) ∨ x = .int (j : Int) := by simpa using hx
      rcases e with rfl | rfl | rfl
      · exact .str
      · exact .int
      · exact .int
  | tab t g tb i j =>
    obtain ⟨c, h1, as, h2, h3, h4⟩ := h
    have hlen : tb.length ≤ 1000 := ok.2.2.2.2.2.2.2.2.1
    have hI : IsTab m tb := ok.2.2.2.2.2.2.2.1
    have hc : Eqv K H 3 (.ref c) (.ref c) := Eqv.self2 h2 (by rw [List.length_map, h3]; omega) fun x hx => by
      obtain ⟨b, hb, rfl⟩ := List.mem_map.mp hx
      obtain ⟨i, hi⟩ := List.mem_iff_getElem?.mp hb
      have hl := (List.getElem?_eq_some_iff.mp hi).1
      have hl2 : i < tb.length := by omega
      obtain ⟨hr, _⟩ := hI.rows i _ (List.getElem?_eq_getElem hl2)
      exact Eqv.self2 (h4 i _ b (List.getElem?_eq_getElem hl2) hi) (by rw [List.length_map, hr]; omega) fun x hx => by
        obtain ⟨z, _, rfl⟩ := List.mem_map.mp hx
        exact .int
    exact Eqv.self2 h1 (Nat.le_of_ble_eq_true rfl) fun x hx => by
      have e : x = .str "table" ∨ x = .int (t : Int) ∨ x = .int g ∨ x = .ref c ∨ x = .int (i : Int) ∨ x = .int (j : Int) := by simpa using hx
      rcases e with rfl | rfl | rfl | rfl | rfl | rfl
      · exact .str
      · exact .int
      · exact .int
      · exact hc
      · exact .int
      · exact .int
end Br

/-! ### minus and len of an instance -/
namespace Br
open PySem PySem.Spec PyProof.Rows L2 PySem.Calls
section
variable {X : Cx} {CX : CXT} {k : Nat} {f C : Addr} {fd : FuncData} {ps : List Str} {sp : Sp} {ds : List Value} {dvs : List V} {E : XK}
def rNegM (C : Addr) (sp : Sp) (dvs : List V) (E : XK) : V → Hp → VK → Prop := fun x H Q => ∃ a dx fs, x = .ref a ∧ H a = some (.ins C dx fs) ∧ sp (x :: dvs) H Q E
theorem un_negM (hm : Meth X.K C "__neg__" f) (F : FnOk X.prog X.w X.K X.mg X.base CX k f fd ps sp) (hr : Room k X.A) (hb : Binds X.K fd ps ds) (hd : Vals dvs ds) (hx : Passes CX X E) :
    UnR X (unaryOp .USub) (rNegM C sp dvs E) := by
  intro pins s σ H x u Q I rx q
  obtain ⟨a, dx, fs, rfl, e, q⟩ := q
  obtain rfl : u = Value.ref a := rx
  obtain ⟨mA, O, _⟩ := ins_get I.hok e
  obtain ⟨od, J, hl⟩ := O.look
  unfold unaryOp
  refine wpAny_holding ?_
  exact wpAny_bind (PySem.W.special_fn I.kIn J hm.at_ (beq_iff_eq.mp hm.fn) (wpAny_mono (run_fn (us := [.ref a]) (vs := [.ref a]) F hr hb hd hx I (.cons rfl .nil) q) (fun _ _ z => wpAny_pure z) fun _ _ z => z))
theorem run_in1 {pins : List (Addr × Obj)} {σ : L2.St} {H : Hp} {s : Shared} {Q : VK} {us : List Value} {vs : List V} (F : FnOk X.prog X.w X.K X.mg X.base CX k f fd ps sp) (hr : Room (k + 1) X.A) (hb : Binds X.K fd ps ds) (hd : Vals dvs ds) (hx : Passes CX X E)
    (I : Inv X pins σ H s) (r : Vals vs us) (h : sp (vs ++ dvs) H Q E) : wpAny (model X.prog X.w) X.A.in1 (call (.ref f) us) (EP X pins σ Q) X.xe s := by
  have r2 : Vals (vs ++ dvs) (us ++ ds) := r.append hd
  have hl : (us ++ ds).length = ps.length := by rw [← r2.length]; exact F.len _ _ _ _ h
  refine wpAny_call (codeAny_mono (F.run X.A.in1 X.stack s H ⟨us, []⟩ (us ++ ds) (vs ++ dvs) Q E hr.in1 I.env0.in1 (hb s us I.kIn hl) r2 h) fun r s' hq => ?_)
  cases r with
  | error e => exact hx pins σ H s e s' I hq
  | ok fl =>
    cases fl with
    | ret u =>
      obtain ⟨v, H', I3, rv, q3⟩ := I.after hq
      exact ⟨v, H', I3, rv, q3⟩
    | next => exact False.elim hq
    | brk => exact False.elim hq
    | cont => exact False.elim hq
theorem pe_fldK {K2 : PySem.W.Frag} {e : Expr} {g : Str} {ta : TE} {pos : Pos} (hK : X.K = K2) (he : PE X e ta) (hb : attributeBase e g X.env (eval e X.env) = eval e X.env) : PE X (.Attribute e g pos) (tFld K2 ta g) := by
  subst hK
  exact pe_fld he hb
def rLenM (C : Addr) (sp : Sp) (dvs : List V) (E : XK) : List V → Hp → VK → Prop := fun xs H Q => ∃ a dx fs, xs = [.ref a] ∧ H a = some (.ins C dx fs) ∧ sp (.ref a :: dvs) H (fun v H' => ∃ n : Nat, v = .int (n : Int) ∧ (n : Int) < 2 ^ 63 ∧ Q v H') E
theorem cr_lenM (hm : Meth X.K C "__len__" f) (F : FnOk X.prog X.w X.K X.mg X.base CX k f fd ps sp) (hr : Room (k + 1) X.A) (hb : Binds X.K fd ps ds) (hd : Vals dvs ds) (hx : Passes CX X E) : CallR X (.builtin "len") (rLenM C sp dvs E) := by
  intro pins s σ H xs us Q I r h
  obtain ⟨a, dx, fs, rfl, e, q⟩ := h
  obtain ⟨u, rfl, rx⟩ := vals1 r
  obtain rfl : u = Value.ref a := rx
  obtain ⟨mA, O, _⟩ := ins_get I.hok e
  obtain ⟨od, J, hl⟩ := O.look
  refine Calls.call_function_entry kind_len plain_len entry_len (args_len1 _) ?_
  unfold Builtin.«len»
  refine wpAny_bind (m := oneArg "len" _) (wpAny_pure ?_)
  refine wpAny_bind (m := callSpecial? (.ref a) (PySem.Str.ofString "__len__")) (PySem.W.special_fn I.kIn J hm.at_ (beq_iff_eq.mp hm.fn) (wpAny_mono (run_in1 (us := [.ref a]) (vs := [.ref a]) F hr hb hd hx I (.cons rfl .nil) q) (fun v s' z => ?_) fun _ _ z => z))
  obtain ⟨x, H', I', rx, n, rfl, hn, q⟩ := z
  obtain ⟨t, rfl⟩ := rx
  refine wpAny_bind (wpAny_holding (wpAny_pure ?_))
  refine wpAny_bind (wpAny_letGo ?_)
  show wpAny _ _ (if ((n : Nat) : Int) < 0 then _ else _) _ _ _
  rw [if_neg (by omega)]
  show wpAny _ _ (if ((n : Nat) : Int) ≥ 2 ^ 63 then _ else _) _ _ _
  rw [if_neg (by omega)]
  exact wpAny_bind (wpAny_mkInt (wpAny_pure ⟨_, rfl, .int (n : Int), H', I'.tok _, ⟨_, rfl⟩, q⟩))
end
end Br

/-! ### max(xs, default=d) -/
namespace Br
open PySem PySem.Spec PyProof.Rows L2
theorem max_rawD {prog : Program} {w : World} {A : Around} {E : Value → Shared → Prop} {s : Shared} {l : Addr} {its : List Value} {ns : List Int} {d : Value} {Q : Value → Shared → Prop} (hh : A.handled = none) (hl : s.heap.IsList l its.toArray) (hi : IntsAre its ns)
    (h0 : ns = [] → ∀ h' tk, (∀ b o, s.heap.get? b = some o → h'.get? b = some o) → Q d { s with heap := h', toks := tk })
    (h : ∀ h' tk M t', (∀ b o, s.heap.get? b = some o → h'.get? b = some o) → M ∈ ns → (∀ a, a ∈ ns → a ≤ M) → Q (.int M t') { s with heap := h', toks := tk }) : wpAny (model prog w) A (call (.builtin "max") [.ref l] [(Str.ofString "default", d)]) Q E s := by
  obtain ⟨xs, e⟩ := hi.allInts.items
  have hn : numsOf (intItems xs).toList = ns := by rw [← e]; exact hi.numsOf
  rw [nums_intItems] at hn
  subst hn
  rw [e] at hl
  refine call_max_walkD (iter_intList hl fun s₂ e2 st hfp hlI => ?_)
  have keep : ∀ {s' : Shared}, Moved [s.heap.objs.size] (fun a b => b = a) s₂ s' → (∀ b o, s.heap.get? b = some o → s'.heap.get? b = some o) ∧ s' = { s with heap := s'.heap, toks := s'.toks } := by
    intro s' m
    subst e2
    refine ⟨fun b o eb => m.heap b o (fun hb => ?_) (Heap.get?_push_of_some _ eb), ?_⟩
    · have : b = s.heap.objs.size := by simpa using hb
      exact absurd (Heap.lt_size eb) (by rw [this]; exact Nat.lt_irrefl _)
    · have h1 := m.gens
      have h2 := m.drawn
      have h3 := m.os
      cases s'
      cases s
      simp at h1 h2 h3 ⊢
      exact ⟨h1, h2, h3⟩
  refine ⟨_, _, _, _, _, _, _, s.heap, fun i j => decide (numAt xs i > numAt xs j), rfl, (Walks.list (A := A.in1) hh _ l hlI (intItems xs)).toS, st, hfp, ?_, ?_, ?_, ?_⟩
  · intro b o eb hb
    have : b = s.heap.objs.size := by simpa using hb
    exact absurd (Heap.lt_size eb) (by rw [this]; exact Nat.lt_irrefl _)
  · intro b o eb
    subst e2
    exact Heap.get?_push_of_some _ eb
  · intro hz s' m
    obtain ⟨k1, k2⟩ := keep m
    rw [k2]
    refine h0 ?_ _ _ k1
    have : xs.size = 0 := by simpa [intItems] using hz
    have : xs = #[] := Array.eq_empty_of_size_eq_zero this
    rw [this]
    rfl
  · intro hz
    have hsz : 0 < xs.size := by simpa [intItems] using hz
    refine ⟨fun i j vi vj s' Q' E' _ h1 h2 h3 => CmpOf.ints_gt (numAt xs) (fun _ _ => intItems_at) i j vi vj s' Q' E' h1 h2 h3, fun v s' hP m => ?_⟩
    obtain ⟨k1, k2⟩ := keep m
    rw [k2]
    have hP : (intItems xs)[argBest (fun i j => decide (numAt xs i > numAt xs j)) (xs.size - 1)]? = some v := by simpa [intItems] using hP
    obtain ⟨t, rfl⟩ := intItems_at hP
    obtain ⟨h1, h2⟩ := argBest_gt (numAt xs) (xs.size - 1)
    refine h _ _ _ t k1 ?_ fun a ha => ?_
    · rw [numAt_eq]; exact PySem.getD_mem (by rw [List.length_map, Array.length_toList]; omega)
    · obtain ⟨j, hj, rfl⟩ := mem_getD ha
      rw [List.length_map, Array.length_toList] at hj
      rw [← numAt_eq]; exact h2 j (by omega)
/-- max(xs, default=z): z the default -/
def rMaxDf (K : PySem.W.Frag) : List V → List V → Hp → VK → Prop := fun vs zs H Q => ∃ (a : Addr) (ns : List Int) (d : Int), vs = [V.ref a] ∧ zs = [.int d] ∧ SqL K H a (ns.map V.int) ∧ (ns = [] → Q (.int d) H) ∧ ∀ m, m ∈ ns → (∀ y, y ∈ ns → y ≤ m) → Q (.int m) H
theorem cr_maxDf {X : Cx} (hc : X.calm = true) : CallRK X (.builtin "max") [Str.ofString "default"] (rMaxDf X.K) := by
  intro pins s σ H xs zs us ws Q I r1 r2 h
  obtain ⟨a, ns, d, rfl, rfl, hs, q0, q⟩ := h
  obtain ⟨its, rv, hl, _⟩ := I.list hs
  rw [Vals.ref1 r1]
  cases r2 with
  | cons rz rr =>
    cases rr
    exact max_rawD (I.ok.hd hc) hl.isList rv.ints (fun e h' tk hk => ⟨.int d, H, I.kept hk, rz, q0 e⟩) fun h' tk m t' hk h1 h2 => ⟨.int _, H, I.kept hk, ⟨_, rfl⟩, q m h1 h2⟩
theorem x_maxDf {K : PySem.W.Frag} {σ : L2.St} {H : Hp} {Q : VK} {t tk : TA} (h : t σ H fun vs H1 => tk σ H1 fun zs H2 => rMaxDf K vs zs H2 Q) : tCKw (rMaxDf K) t tk σ H Q := h
/-- what is walked within a comprehension, the written part named -/
theorem pi_tupK {X : Cx} {tg : Expr} {K2 : PySem.W.Frag} {l : Expr} {tl : TE} (hK : X.K = K2) (hl : PE X l tl) : PI X tg l (iTup K2 tl) := by
  subst hK
  exact pi_tup hl
theorem pi_listK {X : Cx} {tg : Expr} {K2 : PySem.W.Frag} {l : Expr} {tl : TE} (hK : X.K = K2) (hl : PE X l tl) : PI X tg l (iList K2 tl) := by
  subst hK
  exact pi_list hl
theorem x_maxDfP {K : PySem.W.Frag} {H : Hp} {Q : VK} {a : Addr} {ns : List Int} {d : Int} (hs : SqL K H a (ns.map V.int)) (h : ∀ m, (ns = [] ∧ m = d) ∨ (m ∈ ns ∧ ∀ y, y ∈ ns → y ≤ m) → Q (.int m) H) : rMaxDf K [.ref a] [.int d] H Q :=
  ⟨a, ns, d, rfl, rfl, hs, fun e => h d (.inl ⟨e, rfl⟩), fun m h1 h2 => h m (.inr ⟨h1, h2⟩)⟩
end Br

/-! ### data of any kind in the heap, apart from one list -/
namespace Br
open PySem PySem.Spec PyProof.Rows L2
mutual
inductive DAt (d : Addr) (H : Hp) : V → PyData → Prop
  | non : DAt d H .non .none
  | bl (b : Bool) : DAt d H (.bl b) (.bool b)
  | int (i : Int) : DAt d H (.int i) (.int i)
  | str (x : Str) : DAt d H (.str x) (.str x)
  | lst {a : Addr} {xs : List V} {ds : List PyData} (hd : a ≠ d) (h : H a = some (.lst xs)) (hs : DAts d H xs ds) : DAt d H (.ref a) (.list ds)
  | tup {a : Addr} {xs : List V} {ds : List PyData} (h : H a = some (.tup xs)) (hs : DAts d H xs ds) : DAt d H (.ref a) (.tuple ds)
inductive DAts (d : Addr) (H : Hp) : List V → List PyData → Prop
  | nil : DAts d H [] []
  | cons {v : V} {vs : List V} {e : PyData} {es : List PyData} (h : DAt d H v e) (hs : DAts d H vs es) : DAts d H (v :: vs) (e :: es)
end
section
variable {d : Addr} {H H' : Hp}
theorem DAts.len : ∀ {xs : List V} {ds : List PyData}, DAts d H xs ds → xs.length = ds.length
  | [], _, h => by cases h; rfl
  | _ :: xs, _, h => by
    cases h with
    | cons h hs => exact congrArg (· + 1) hs.len
theorem DAts.get : ∀ {xs : List V} {ds : List PyData}, DAts d H xs ds → ∀ {i : Nat} {x : V}, xs[i]? = some x → ∃ e, ds[i]? = some e ∧ DAt d H x e
  | [], _, _, i, x, e => by simp at e
  | v :: xs, _, h, i, x, e => by
    cases h with
    | cons h hs =>
      cases i with
      | zero => cases e; exact ⟨_, rfl, h⟩
      | succ i => exact hs.get (i := i) (by simpa using e)
theorem DAts.of : ∀ {xs : List V} {ds : List PyData}, xs.length = ds.length → (∀ (i : Nat) x e, xs[i]? = some x → ds[i]? = some e → DAt d H x e) → DAts d H xs ds
  | [], [], _, _ => .nil
  | v :: xs, e :: ds, hl, h => .cons (h 0 v e rfl rfl) (DAts.of (by simpa using hl) fun i x f h1 h2 => h (i + 1) x f (by simpa using h1) (by simpa using h2))
  | [], _ :: _, hl, _ => by simp at hl
  | _ :: _, [], hl, _ => by simp at hl
theorem DAts.snoc : ∀ {xs : List V} {ds : List PyData} {v : V} {e : PyData}, DAts d H xs ds → DAt d H v e → DAts d H (xs ++ [v]) (ds ++ [e])
  | [], _, v, e, h, h1 => by cases h; exact .cons h1 .nil
  | _ :: xs, _, v, e, h, h1 => by
    cases h with
    | cons h hs => exact .cons h (hs.snoc h1)
theorem DAts.app : ∀ {xs ys : List V} {ds es : List PyData}, DAts d H xs ds → DAts d H ys es → DAts d H (xs ++ ys) (ds ++ es)
  | [], _, _, _, h, h1 => by cases h; exact h1
  | _ :: xs, _, _, _, h, h1 => by
    cases h with
    | cons h hs => exact .cons h (hs.app h1)
mutual
theorem DAt.keep (hd : ∃ ys, H d = some (.lst ys)) (k : Keep d H H') : ∀ (e : PyData) {v : V}, DAt d H v e → DAt d H' v e
  | .none, _, h => by cases h; exact .non
  | .bool b, _, h => by cases h; exact .bl b
  | .int i, _, h => by cases h; exact .int i
  | .str x, _, h => by cases h; exact .str x
  | .list ds, _, h => by
    cases h with
    | lst hn h hs => exact .lst hn (k _ _ h hn) (DAts.keep hd k ds hs)
  | .tuple ds, _, h => by
    obtain ⟨ys, hd'⟩ := id hd
    cases h with
    | tup h hs => exact .tup (k _ _ h (ne_of h hd' (by intro z; cases z))) (DAts.keep hd k ds hs)
  | .dict _, _, h => by cases h
theorem DAts.keep (hd : ∃ ys, H d = some (.lst ys)) (k : Keep d H H') : ∀ (es : List PyData) {vs : List V}, DAts d H vs es → DAts d H' vs es
  | [], _, h => by cases h; exact .nil
  | e :: es, _, h => by
    cases h with
    | cons h hs => exact .cons (DAt.keep hd k e h) (DAts.keep hd k es hs)
end
mutual
theorem DAt.same (k : Same H H') : ∀ (e : PyData) {v : V}, DAt d H v e → DAt d H' v e
  | .none, _, h => by cases h; exact .non
  | .bool b, _, h => by cases h; exact .bl b
  | .int i, _, h => by cases h; exact .int i
  | .str x, _, h => by cases h; exact .str x
  | .list ds, _, h => by
    cases h with
    | lst hn h hs => exact .lst hn (k _ _ h) (DAts.same k ds hs)
  | .tuple ds, _, h => by
    cases h with
    | tup h hs => exact .tup (k _ _ h) (DAts.same k ds hs)
  | .dict _, _, h => by cases h
theorem DAts.same (k : Same H H') : ∀ (es : List PyData) {vs : List V}, DAts d H vs es → DAts d H' vs es
  | [], _, h => by cases h; exact .nil
  | e :: es, _, h => by
    cases h with
    | cons h hs => exact .cons (DAt.same k e h) (DAts.same k es hs)
end
theorem DAts.ints : ∀ {ns : List Int}, DAts d H (ns.map V.int) (ns.map PyData.int)
  | [] => .nil
  | i :: ns => .cons (.int i) DAts.ints
theorem DAts.bls : ∀ {bs : List Bool}, DAts d H (bs.map V.bl) (bs.map PyData.bool)
  | [] => .nil
  | b :: bs => .cons (.bl b) DAts.bls
/-- is it an integer from 0 to b - 1 -/
def isBD (b : Int) : PyData → Bool
  | .int i => decide (0 ≤ i) && decide (i < b)
  | _ => false
theorem isBD_iff {b : Int} {e : PyData} : isBD b e = true ↔ ∃ i, e = .int i ∧ 0 ≤ i ∧ i < b := by
  cases e with
  | int i =>
    show (decide (0 ≤ i) && decide (i < b)) = true ↔ _
    rw [Bool.and_eq_true, decide_eq_true_iff, decide_eq_true_iff]
    exact ⟨fun h => ⟨i, rfl, h⟩, fun ⟨j, e, h⟩ => by cases e; exact h⟩
  | _ => exact ⟨fun h => (by cases h), fun h => (by obtain ⟨_, h, _⟩ := h; cases h)⟩
def isBlD : PyData → Bool
  | .bool _ => true
  | _ => false
end
end Br

/-! ### gates as data, and what they do -/
namespace Br
open PySem PySem.Spec PyProof.Rows L2
abbrev Gt := Nat × List Nat
def perfG (bs : List Bool) (g : Gt) : List Bool := if g.2.all (fun c => bs.getD c false) then bs.set g.1 (!bs.getD g.1 false) else bs
def perfF (gs : List Gt) (bs : List Bool) : List Bool := gs.foldl perfG bs
structure GtOk (n : Nat) (g : Gt) : Prop where
  t : g.1 < n
  c : ∀ x, x ∈ g.2 → x < n
  ne : g.1 ∉ g.2
  up : g.2.Pairwise (· < ·)
theorem GtOk.mono {n m : Nat} {g : Gt} (h : GtOk n g) (l : n ≤ m) : GtOk m g := ⟨Nat.lt_of_lt_of_le h.t l, fun x hx => Nat.lt_of_lt_of_le (h.c x hx) l, h.ne, h.up⟩
theorem perfG_len {bs : List Bool} {g : Gt} : (perfG bs g).length = bs.length := by
  unfold perfG
  split
  · rw [List.length_set]
  · rfl
theorem perfF_len : ∀ {gs : List Gt} {bs : List Bool}, (perfF gs bs).length = bs.length
  | [], _ => rfl
  | g :: gs, bs => (perfF_len (gs := gs) (bs := perfG bs g)).trans perfG_len
theorem perfF_snoc {gs : List Gt} {g : Gt} {bs : List Bool} : perfF (gs ++ [g]) bs = perfG (perfF gs bs) g := by
  unfold perfF
  rw [List.foldl_append]
  rfl
theorem getD_setB {bs : List Bool} {i j : Nat} {b : Bool} (h : i ≠ j) : (bs.set i b).getD j false = bs.getD j false := by
  rw [List.getD_eq_getElem?_getD, List.getD_eq_getElem?_getD, List.getElem?_set_ne h]
theorem perfG_twice {n : Nat} {bs : List Bool} {g : Gt} (ok : GtOk n g) (hn : n ≤ bs.length) : perfG (perfG bs g) g = bs := by
  have ht := Nat.lt_of_lt_of_le ok.t hn
  by_cases h : g.2.all (fun c => bs.getD c false) = true
  · have e : perfG bs g = bs.set g.1 (!bs.getD g.1 false) := by unfold perfG; rw [if_pos h]
    rw [e]
    unfold perfG
    rw [if_pos]
    · apply List.ext_getElem?
      intro j
      by_cases hj : g.1 = j
      · subst hj
        have h1 : g.1 < (bs.set g.1 (!bs.getD g.1 false)).length := by rw [List.length_set]; exact ht
        rw [List.getElem?_set_self h1, List.getD_eq_getElem?_getD (l := bs.set _ _), List.getElem?_set_self ht, List.getD_eq_getElem?_getD, List.getElem?_eq_getElem ht]
        simp
      · rw [List.getElem?_set_ne hj, List.getElem?_set_ne hj]
    · rw [List.all_eq_true] at h ⊢
      intro c hc
      rw [getD_setB (fun e => ok.ne (by rw [e]; exact hc))]
      exact h c hc
  · have e : perfG bs g = bs := by unfold perfG; rw [if_neg h]
    rw [e, e]
theorem perfF_rev {n : Nat} : ∀ {gs : List Gt} {bs : List Bool}, (∀ g, g ∈ gs → GtOk n g) → n ≤ bs.length → perfF gs.reverse (perfF gs bs) = bs
  | [], _, _, _ => rfl
  | g :: gs, bs, ok, hn => by
    rw [List.reverse_cons, perfF_snoc]
    show perfG (perfF gs.reverse (perfF gs (perfG bs g))) g = bs
    rw [perfF_rev (fun x hx => ok x (List.mem_cons_of_mem _ hx)) (by rw [perfG_len]; exact hn)]
    exact perfG_twice (ok g List.mem_cons_self) hn
def cInts (cs : List Nat) : List V := cs.map fun (c : Nat) => V.int (c : Int)
def GtAt (H : Hp) (a : Addr) (g : Gt) : Prop := ∃ c : Addr, H a = some (.tup [.int (g.1 : Int), .ref c]) ∧ H c = some (.tup (cInts g.2))
def gtD (g : Gt) : PyData := .tuple [.int (g.1 : Int), .tuple (g.2.map fun (c : Nat) => PyData.int (c : Int))]
theorem GtAt.tups {H H' : Hp} {a : Addr} {g : Gt} (h : GtAt H a g) (k : ∀ b xs, H b = some (.tup xs) → H' b = some (.tup xs)) : GtAt H' a g := by
  obtain ⟨c, h1, h2⟩ := h
  exact ⟨c, k _ _ h1, k _ _ h2⟩
theorem cInts_at {d : Addr} {H : Hp} : ∀ {cs : List Nat}, DAts d H (cInts cs) (cs.map fun (c : Nat) => PyData.int (c : Int))
  | [] => .nil
  | c :: cs => .cons (.int _) cInts_at
theorem GtAt.dat {d a : Addr} {H : Hp} {g : Gt} (h : GtAt H a g) : DAt d H (.ref a) (gtD g) := by
  obtain ⟨c, h1, h2⟩ := h
  exact .tup h1 (.cons (.int _) (.cons (.tup h2 cInts_at) .nil))
/-- rising bits below 120, behind the last one -/
def risF : Int → List PyData → Bool
  | _, [] => true
  | l, .int i :: es => (decide (0 ≤ i) && decide (i < 120)) && (decide (l < i) && risF i es)
  | _, _ :: _ => false
def risD : PyData → Bool
  | .tuple es => risF (-1) es
  | _ => false
def hasD (e : PyData) (es : List PyData) : Bool := es.any fun x => match x, e with | .int i, .int j => decide (i = j) | _, _ => false
def gateD : PyData → Bool
  | .tuple [t, .tuple es] => isBD 120 t && (risF (-1) es && !hasD t es)
  | _ => false
def gatesD : PyData → Bool
  | .list es => decide (es.length ≤ 60000) && es.all gateD
  | _ => false
theorem risF_ok : ∀ {cs : List Nat} {l : Int}, cs.Pairwise (· < ·) → (∀ c, c ∈ cs → c < 120 ∧ l < (c : Int)) → risF l (cs.map fun (c : Nat) => PyData.int (c : Int)) = true
  | [], _, _, _ => rfl
  | c :: cs, l, hp, h => by
    obtain ⟨h1, h2⟩ := h c List.mem_cons_self
    show ((decide (0 ≤ (c : Int)) && decide ((c : Int) < 120)) && (decide (l < (c : Int)) && _)) = true
    rw [decide_eq_true (by omega), decide_eq_true (by omega), decide_eq_true h2]
    rw [List.pairwise_cons] at hp
    exact risF_ok hp.2 fun x hx => ⟨(h x (List.mem_cons_of_mem _ hx)).1, by have := hp.1 x hx; omega⟩
theorem gateD_ok {g : Gt} (ok : GtOk 120 g) : gateD (gtD g) = true := by
  show (isBD 120 (.int (g.1 : Int)) && (risF (-1) (g.2.map fun (c : Nat) => PyData.int (c : Int)) && !hasD (.int (g.1 : Int)) (g.2.map fun (c : Nat) => PyData.int (c : Int)))) = true
  have h1 : isBD 120 (.int (g.1 : Int)) = true := isBD_iff.mpr ⟨_, rfl, by omega, by have := ok.t; omega⟩
  have h2 := risF_ok (l := -1) ok.up fun c hc => ⟨ok.c c hc, by omega⟩
  have h3 : hasD (.int (g.1 : Int)) (g.2.map fun (c : Nat) => PyData.int (c : Int)) = false := by
    unfold hasD
    rw [List.any_eq_false]
    intro x hx
    obtain ⟨c, hc, rfl⟩ := List.mem_map.mp hx
    have hne : (c : Int) ≠ (g.1 : Int) := fun e => ok.ne (by have : c = g.1 := by omega
                                                             rw [← this]; exact hc)
    show ¬ decide ((c : Int) = (g.1 : Int)) = true
    rw [decide_eq_false hne]
    decide
  rw [h1, h2, h3]
  rfl
/-- the bits that a gate touches -/
def topG (g : Gt) : Nat := g.2.foldr max g.1 + 1
theorem foldr_max {cs : List Nat} {t : Nat} : t ≤ cs.foldr max t ∧ (∀ c, c ∈ cs → c ≤ cs.foldr max t) ∧ (cs.foldr max t = t ∨ cs.foldr max t ∈ cs) := by
  induction cs with
  | nil => exact ⟨Nat.le_refl _, fun c h => by simp at h, .inl rfl⟩
  | cons c cs ih =>
    obtain ⟨h1, h2, h3⟩ := ih
    show t ≤ max c _ ∧ _ ∧ _
    refine ⟨by omega, fun x hx => ?_, ?_⟩
    · rcases List.mem_cons.mp hx with rfl | hx
      · exact Nat.le_max_left _ _
      · exact Nat.le_trans (h2 x hx) (Nat.le_max_right _ _)
    · show max c _ = t ∨ max c _ ∈ _
      rcases Nat.le_total c (cs.foldr max t) with h | h
      · rw [Nat.max_eq_right h]
        rcases h3 with h3 | h3
        · exact .inl h3
        · exact .inr (List.mem_cons_of_mem _ h3)
      · rw [Nat.max_eq_left h]
        exact .inr List.mem_cons_self
theorem topG_le {n : Nat} {g : Gt} (ok : GtOk n g) : topG g ≤ n := by
  unfold topG
  rcases (foldr_max (cs := g.2) (t := g.1)).2.2 with h | h
  · rw [h]; exact ok.t
  · exact ok.c _ h
theorem up_len {n : Nat} : ∀ {cs : List Nat} {l : Nat}, cs.Pairwise (· < ·) → (∀ c, c ∈ cs → l ≤ c ∧ c < n) → cs.length ≤ n - l
  | [], _, _, _ => Nat.zero_le _
  | c :: cs, l, hp, h => by
    rw [List.pairwise_cons] at hp
    obtain ⟨h1, h2⟩ := h c List.mem_cons_self
    have := up_len (l := c + 1) hp.2 fun x hx => ⟨hp.1 x hx, (h x (List.mem_cons_of_mem _ hx)).2⟩
    rw [List.length_cons]
    omega
theorem GtOk.len {n : Nat} {g : Gt} (h : GtOk n g) : g.2.length ≤ n := by
  have := up_len (l := 0) h.up fun c hc => ⟨Nat.zero_le _, h.c c hc⟩
  omega
theorem cInts_get {cs : List Nat} {i : Nat} {x : V} (hx : (cInts cs)[i]? = some x) : ∃ m : Nat, cs[i]? = some m ∧ x = .int (m : Int) := by
  unfold cInts at hx
  rw [List.getElem?_map] at hx
  cases e : cs[i]? with
  | none => rw [e] at hx; cases hx
  | some n => rw [e] at hx; exact ⟨n, rfl, (Option.some.inj hx).symm⟩
end Br

/-! ### bits, many gates; comprehensions with a test -/
namespace Br
open PySem PySem.Spec PyProof.Rows L2
theorem x_max {σ : L2.St} {H : Hp} {Q : VK} {K : PySem.W.Frag} {p : Addr} {ns : List Int} (hp : SqL K H p (ns.map V.int)) (h0 : 0 < ns.length) (q : ∀ m, m ∈ ns → (∀ y, y ∈ ns → y ≤ m) → Q (.int m) H) : rMax K [.ref p] H Q := ⟨p, ns, rfl, hp, h0, q⟩
theorem cInts_eq {cs : List Nat} : cInts cs = (cs.map fun (c : Nat) => (c : Int)).map V.int := by
  unfold cInts
  rw [List.map_map]
  rfl
theorem x_listT {K : PySem.W.Frag} {H : Hp} {Q : VK} {p : Addr} {xs : List V} (hp : SqT K H p xs) (q : ∀ l, H l = none → Q (.ref l) (L2.upd H l (.lst xs))) : rListOf K [.ref p] H Q := ⟨p, xs, rfl, .inr hp, q⟩
def bls (bs : List Bool) : List V := bs.map V.bl
theorem bls_get {bs : List Bool} {i : Nat} (h : i < bs.length) : (bls bs)[i]? = some (.bl (bs.getD i false)) := by
  unfold bls
  rw [List.getElem?_map, List.getElem?_eq_getElem h, List.getD_eq_getElem?_getD, List.getElem?_eq_getElem h]
  rfl
theorem bls_set {bs : List Bool} {i : Nat} {b : Bool} : (bls bs).set i (.bl b) = bls (bs.set i b) := by
  unfold bls
  rw [List.map_set]
theorem bls_len {bs : List Bool} : (bls bs).length = bs.length := by unfold bls; rw [List.length_map]
/-- many gates -/
def GtsAt (H : Hp) (as : List Addr) (gs : List Gt) : Prop := as.length = gs.length ∧ ∀ (i : Nat) x b, gs[i]? = some x → as[i]? = some b → GtAt H b x
theorem GtsAt.tups {H H' : Hp} {as : List Addr} {gs : List Gt} (h : GtsAt H as gs) (k : ∀ b xs, H b = some (.tup xs) → H' b = some (.tup xs)) : GtsAt H' as gs := ⟨h.1, fun i x b e1 e2 => (h.2 i x b e1 e2).tups k⟩
theorem GtsAt.get {H : Hp} {as : List Addr} {gs : List Gt} (h : GtsAt H as gs) {i : Nat} {b : Addr} (e : as[i]? = some b) : ∃ x, gs[i]? = some x ∧ GtAt H b x := by
  have hl := (List.getElem?_eq_some_iff.mp e).1
  have hl2 : i < gs.length := by rw [← h.1]; exact hl
  exact ⟨_, List.getElem?_eq_getElem hl2, h.2 i _ b (List.getElem?_eq_getElem hl2) e⟩
theorem take_snocG {α : Type} {ss : List α} {i : Nat} {s : α} (h : ss[i]? = some s) : ss.take (i + 1) = ss.take i ++ [s] := by rw [List.take_add_one, h]; rfl
/-- a comprehension over a tuple, with a test, that keeps the items that meet it -/
theorem x_lcTT {K : PySem.W.Frag} {σ : L2.St} {H : Hp} {Q : VK} {ta : TE} {tt : TT} {te : TE} {j : Nat} {vs : List Nat} {a : Addr} (xs : List V) (P : Addr → Nat → Hp → Prop) (hn : ∀ R : V → Hp → Prop, R (.ref a) H → ta σ H R) (ha : SqT K H a xs) (h0 : ∀ p, H p = none → P p 0 (L2.upd H p (.lst [])))
    (hl : ∀ p i H', H p = none → i ≤ xs.length → P p i H' → SqT K H' a xs) (hw : ∀ x, wipe ((wipe σ vs).set j (some x)) vs = wipe σ vs)
    (hs : ∀ p (i : Nat) x H', H p = none → xs[i]? = some x → P p i H' → tt ((wipe σ vs).set j (some x)) H' fun b H3 => if b = true then te ((wipe σ vs).set j (some x)) H3 fun y H4 => ∃ acc, H4 p = some (.lst acc) ∧ acc.length < sizeLine ∧ P p (i + 1) (L2.upd H4 p (.lst (acc ++ [y]))) else P p (i + 1) H3)
    (hd : ∀ p H', H p = none → P p xs.length H' → Q (.ref p) H') : tLc (iTup K ta) (gName j) tt te vs σ H Q := by
  refine hn _ ⟨a, rfl, ⟨xs, ha⟩, fun p hp => ?_⟩
  refine lc_tup (xs := xs) (Qd := fun H' => Q (.ref p) H') (P p) (h0 p hp) (fun i H' hi q => hl p i H' hp hi q) (fun i x H' hi q => ?_) fun H' q => hd p H' hp q
  exact ⟨hw _, hs p i x H' hp hi q⟩
theorem x_lcPreT {σ : L2.St} {H : Hp} {Q : VK} {ta : TE} {j : Nat} {tt : TT} {te : TE} {vs : List Nat} (h : ta σ H fun v H1 => tLc (iRng1 (tCons (tC v) tNil)) (gName j) tt te vs σ H1 Q) : tLc (iRng1 (tCons ta tNil)) (gName j) tt te vs σ H Q := h
/-- a comprehension over a range, with a test -/
theorem x_lcRT {σ : L2.St} {H : Hp} {Q : VK} {ta : TE} {tt : TT} {j : Nat} {te : TE} {vs : List Nat} (n : Int) (P : Addr → Nat → Hp → Prop) (hn : ∀ R : V → Hp → Prop, R (.int n) H → ta σ H R) (h1 : -(2 ^ 62) ≤ n) (h2 : n < 2 ^ 62) (h0 : ∀ p, H p = none → P p 0 (L2.upd H p (.lst [])))
    (hw : ∀ x, wipe ((wipe σ vs).set j (some x)) vs = wipe σ vs)
    (hs : ∀ p (i : Nat) H', H p = none → (i : Int) < n → P p i H' → tt ((wipe σ vs).set j (some (.int (i : Int)))) H' fun b H3 => if b = true then te ((wipe σ vs).set j (some (.int (i : Int)))) H3 fun y H4 => ∃ acc, H4 p = some (.lst acc) ∧ acc.length < sizeLine ∧ P p (i + 1) (L2.upd H4 p (.lst (acc ++ [y]))) else P p (i + 1) H3)
    (hd : ∀ p H', H p = none → P p n.toNat H' → Q (.ref p) H') : tLc (iRng1 (tCons ta tNil)) (gName j) tt te vs σ H Q := by
  refine hn _ ⟨n, rfl, h1, h2, fun p hp => ?_⟩
  refine lc_range (lo := 0) (Qd := fun H' => Q (.ref p) H') (P p) (h0 p hp) (fun i H' hi q => ?_) fun H' q => hd p H' hp q
  have e : (0 : Int) + (i : Int) = (i : Int) := Int.zero_add _
  rw [e]
  exact ⟨hw _, hs p i H' hp (by omega) q⟩
theorem up_snoc {cs : List Nat} {i : Nat} (h : cs.Pairwise (· < ·)) (hc : ∀ c, c ∈ cs → c < i) : (cs ++ [i]).Pairwise (· < ·) := by
  rw [List.pairwise_append]
  exact ⟨h, List.pairwise_singleton _ _, fun a ha b hb => by rw [List.mem_singleton.mp hb]; exact hc a ha⟩
theorem cInts_snoc {cs : List Nat} {i : Nat} : cInts cs ++ [.int (i : Int)] = cInts (cs ++ [i]) := by unfold cInts; rw [List.map_append]; rfl
theorem cInts_len {cs : List Nat} : (cInts cs).length = cs.length := by unfold cInts; rw [List.length_map]
theorem bls_snoc {bs : List Bool} {b : Bool} : bls bs ++ [.bl b] = bls (bs ++ [b]) := by unfold bls; rw [List.map_append]; rfl
/-- a comprehension of values, item by item -/
theorem x_lcV {wi : TI} {te : TE} {vs : List Nat} {j : Nat} {Q : VK} {σ : L2.St} {H : Hp} {J : It} {G : Hp → Prop} {xs : List V} (f : Nat → V) (hw : ∀ R : It → Hp → Prop, R J H → wi σ H R) (w : Walk J xs.length G (YAt xs)) (hn : xs.length ≤ 100000)
    (hG : ∀ H', Same H H' → G H') (hv : ∀ x, wipe ((wipe σ vs).set j (some x)) vs = wipe σ vs)
    (he : ∀ (i : Nat) x H', Same H H' → xs[i]? = some x → ∀ R : VK, (∀ H2, Same H' H2 → R (f i) H2) → te ((wipe σ vs).set j (some x)) H' R)
    (hd : ∀ p H', H p = none → Same H H' → H' p = some (.lst ((List.range xs.length).map f)) → Q (.ref p) H') : tLc wi (gName j) tYes te vs σ H Q := by
  refine x_lcI hw w (fun p i H' => Same H H' ∧ H' p = some (.lst ((List.range i).map f))) (fun p hp => ⟨same_upd hp, upd_same⟩) (fun p i H' _ _ z => hG H' z.1) ?_ (fun x σ' H' R R' hr h => hr _ _ h) fun p H' hp z => hd p H' hp z.1 z.2
  rintro p i x H' H2 hi hp ⟨hs, hl⟩ ⟨rfl, hx⟩
  refine x_gName ⟨hv x, he i x _ hs hx _ fun H3 hs3 => ?_⟩
  refine ⟨_, hs3 _ _ hl, lt_line (by simp; omega), sput (hs.trans hs3) hp, ?_⟩
  rw [upd_same, List.range_succ, List.map_append]
  rfl
theorem range_map {α β : Type} {ds : List α} {f : α → β} {d : α} : ((List.range ds.length).map fun i => f (ds.getD i d)) = ds.map f := by
  apply List.ext_getElem?
  intro i
  rw [List.getElem?_map, List.getElem?_map]
  by_cases h : i < ds.length
  · rw [List.getElem?_range h, List.getElem?_eq_getElem h]
    show some (f (ds.getD i d)) = some (f ds[i])
    rw [List.getD_eq_getElem?_getD, List.getElem?_eq_getElem h]; rfl
  · rw [List.getElem?_eq_none (by simpa using h), List.getElem?_eq_none (by simpa using h)]
    rfl
theorem getDT {α : Type} {ds : List α} {i : Nat} {e d : α} (h : ds[i]? = some e) : ds.getD i d = e := by rw [List.getD_eq_getElem?_getD, h]; rfl
theorem GtsAt.snoc {H : Hp} {as : List Addr} {gs : List Gt} {b : Addr} {x : Gt} (h : GtsAt H as gs) (hx : GtAt H b x) : GtsAt H (as ++ [b]) (gs ++ [x]) := by
  refine ⟨by rw [List.length_append, List.length_append, h.1]; rfl, fun i y c e1 e2 => ?_⟩
  rcases snoc_at rfl e1 with ⟨h1, e1⟩ | ⟨h1, rfl⟩
  · rcases snoc_at rfl e2 with ⟨h2, e2⟩ | ⟨h2, rfl⟩
    · exact h.2 i y c e1 e2
    · have := h.1; omega
  · rcases snoc_at rfl e2 with ⟨h2, e2⟩ | ⟨h2, rfl⟩
    · have := h.1; omega
    · exact hx
theorem x_lcPreLT {K : PySem.W.Frag} {σ : L2.St} {H : Hp} {Q : VK} {te : TE} {ta : TE} {tt : TT} {j : Nat} {vs : List Nat} (h : ta σ H fun v H1 => tLc (iList K (tC v)) (gName j) tt te vs σ H1 Q) : tLc (iList K ta) (gName j) tt te vs σ H Q := h
/-- a comprehension over a list, with a test -/
theorem x_lcLT {K : PySem.W.Frag} {σ : L2.St} {H : Hp} {Q : VK} {ta : TE} {tt : TT} {te : TE} {j : Nat} {vs : List Nat} {a : Addr} (xs : List V) (P : Addr → Nat → Hp → Prop) (hn : ∀ R : V → Hp → Prop, R (.ref a) H → ta σ H R) (ha : SqL K H a xs) (h0 : ∀ p, H p = none → P p 0 (L2.upd H p (.lst [])))
    (hl : ∀ p i H', H p = none → i ≤ xs.length → P p i H' → SqL K H' a xs) (hw : ∀ x, wipe ((wipe σ vs).set j (some x)) vs = wipe σ vs)
    (hs : ∀ p (i : Nat) x H', H p = none → xs[i]? = some x → P p i H' → tt ((wipe σ vs).set j (some x)) H' fun b H3 => if b = true then te ((wipe σ vs).set j (some x)) H3 fun y H4 => ∃ acc, H4 p = some (.lst acc) ∧ acc.length < sizeLine ∧ P p (i + 1) (L2.upd H4 p (.lst (acc ++ [y]))) else P p (i + 1) H3)
    (hd : ∀ p H', H p = none → P p xs.length H' → Q (.ref p) H') : tLc (iList K ta) (gName j) tt te vs σ H Q := by
  refine hn _ ⟨a, rfl, ⟨xs, ha⟩, fun p hp => ?_⟩
  refine lc_list (xs := xs) (Qd := fun H' => Q (.ref p) H') (P p) (h0 p hp) (fun i H' hi q => hl p i H' hp hi q) (fun i x H' hi q => ?_) fun H' q => hd p H' hp q
  exact ⟨hw _, hs p i x H' hp hi q⟩
def bitsD (n : Int) : PyData → Bool
  | .list es => decide (n ≤ (es.length : Int)) && es.all isBlD
  | _ => false
def blsD (bs : List Bool) : PyData := .list (bs.map PyData.bool)
theorem bitsD_iff {n : Int} {e : PyData} : bitsD n e = true ↔ ∃ bs : List Bool, e = blsD bs ∧ n ≤ (bs.length : Int) := by
  constructor
  · intro h
    cases e with
    | list es =>
      have h : (decide (n ≤ (es.length : Int)) && es.all isBlD) = true := h
      rw [Bool.and_eq_true, decide_eq_true_iff] at h
      have : ∀ es : List PyData, es.all isBlD = true → ∃ bs : List Bool, es = bs.map PyData.bool := by
        intro es
        induction es with
        | nil => intro _; exact ⟨[], rfl⟩
        | cons e es ih =>
          intro h
          rw [List.all_cons, Bool.and_eq_true] at h
          obtain ⟨bs, rfl⟩ := ih h.2
          cases e with
          | bool b => exact ⟨b :: bs, rfl⟩
          | _ => cases h.1
      obtain ⟨bs, rfl⟩ := this es h.2
      exact ⟨bs, rfl, by have := h.1; rw [List.length_map] at this; exact this⟩
    | _ => cases h
  · rintro ⟨bs, rfl, h⟩
    show (decide (n ≤ ((bs.map PyData.bool).length : Int)) && (bs.map PyData.bool).all isBlD) = true
    rw [List.length_map, decide_eq_true h, Bool.true_and, List.all_eq_true]
    intro e he
    obtain ⟨b, _, rfl⟩ := List.mem_map.mp he
    rfl
theorem blsD_at {d : Addr} {H : Hp} {v : V} {bs : List Bool} (h : DAt d H v (blsD bs)) : ∃ a, v = .ref a ∧ H a = some (.lst (bls bs)) := by
  unfold blsD at h
  cases h with
  | lst hd h hs =>
    rename_i a xs
    refine ⟨a, rfl, ?_⟩
    have : ∀ {bs : List Bool} {xs : List V}, DAts d H xs (bs.map PyData.bool) → xs = bls bs := by
      intro bs
      induction bs with
      | nil => intro xs h; cases h; rfl
      | cons b bs ih =>
        intro xs h
        cases h with
        | cons h hs =>
          cases h
          rw [ih hs]
          rfl
    rw [h, this hs]
end Br

/-! ### words as data, and what they do -/
namespace Br
open PySem PySem.Spec PyProof.Rows L2
theorem cutV_to {xs : List V} {k : Nat} (h : k ≤ xs.length) : cutV xs none (some (k : Int)) = xs.take k := by
  unfold cutV
  rw [HT.sIx_none, HT.sIx_nat, Nat.min_eq_left h, List.drop_zero, Nat.sub_zero]
theorem cutV_from {xs : List V} {k : Nat} (h : k ≤ xs.length) : cutV xs (some (k : Int)) none = xs.drop k := by
  unfold cutV
  rw [HT.sIx_none, HT.sIx_nat, Nat.min_eq_left h]
  exact List.take_of_length_le (by rw [List.length_drop]; exact Nat.le_refl _)
/-! slices -/
section
variable {σ : L2.St} {H : Hp} {Q : VK} {R : Option Int → Hp → Prop}
theorem x_gTup3 {K : PySem.W.Frag} {σ : L2.St} {H : Hp} {p : Addr} {x y z : V} {i j k : Nat} {R : L2.St → Hp → Prop} (hp : SqT K H p [x, y, z]) (h : R (((σ.set i (some x)).set j (some y)).set k (some z)) H) : gTup K 3 (gCons (gName i) (gCons (gName j) (gCons (gName k) gNil))) (.ref p) σ H R :=
  ⟨p, [x, y, z], rfl, hp, rfl, x, [y, z], rfl, y, [z], rfl, z, [], rfl, rfl, h⟩
end
structure PmOk (p : List Nat) : Prop where
  len : p.length = 5
  lt : ∀ x, x ∈ p → x < 5
  nd : p.Nodup
abbrev Tr := Nat × List Nat × List Nat
def TrOk (t : Tr) : Prop := t.1 < 60 ∧ PmOk t.2.1 ∧ PmOk t.2.2
def pmD (p : List Nat) : PyData := .tuple (p.map fun (c : Nat) => PyData.int (c : Int))
def trD (t : Tr) : PyData := .tuple [.int (t.1 : Int), pmD t.2.1, pmD t.2.2]
def TrAt (H : Hp) (a : Addr) (t : Tr) : Prop := ∃ z o : Addr, H a = some (.tup [.int (t.1 : Int), .ref z, .ref o]) ∧ H z = some (.tup (cInts t.2.1)) ∧ H o = some (.tup (cInts t.2.2))
theorem TrAt.tups {H H' : Hp} {a : Addr} {t : Tr} (h : TrAt H a t) (k : ∀ b xs, H b = some (.tup xs) → H' b = some (.tup xs)) : TrAt H' a t := by
  obtain ⟨z, o, h1, h2, h3⟩ := h
  exact ⟨z, o, k _ _ h1, k _ _ h2, k _ _ h3⟩
theorem TrAt.dat {d a : Addr} {H : Hp} {t : Tr} (h : TrAt H a t) : DAt d H (.ref a) (trD t) := by
  obtain ⟨z, o, h1, h2, h3⟩ := h
  exact .tup h1 (.cons (.int _) (.cons (.tup h2 cInts_at) (.cons (.tup h3 cInts_at) .nil)))
/-- back from data -/
theorem cInts_of {d : Addr} {H : Hp} : ∀ {xs : List V} {cs : List Nat}, DAts d H xs (cs.map fun (c : Nat) => PyData.int (c : Int)) → xs = cInts cs
  | [], [], _ => rfl
  | v :: xs, c :: cs, h => by
    cases h with
    | cons h hs =>
      cases h
      rw [cInts_of hs]
      rfl
  | [], _ :: _, h => by cases h
  | _ :: _, [], h => by cases h
theorem pmD_at {d : Addr} {H : Hp} {v : V} {p : List Nat} (h : DAt d H v (pmD p)) : ∃ z, v = .ref z ∧ H z = some (.tup (cInts p)) := by
  unfold pmD at h
  cases h with
  | tup h hs =>
    rename_i a xs
    refine ⟨a, rfl, ?_⟩
    rw [h, cInts_of hs]
theorem trD_at {d : Addr} {H : Hp} {v : V} {t : Tr} (h : DAt d H v (trD t)) : ∃ a, v = .ref a ∧ TrAt H a t := by
  unfold trD at h
  cases h with
  | tup h hs =>
    rename_i a xs
    cases hs with
    | cons h1 hs =>
      cases h1
      cases hs with
      | cons h2 hs =>
        cases hs with
        | cons h3 hs =>
          cases hs
          obtain ⟨z, rfl, e2⟩ := pmD_at h2
          obtain ⟨o, rfl, e3⟩ := pmD_at h3
          exact ⟨a, rfl, z, o, h, e2, e3⟩
/-- the checks -/
def intD : PyData → Int
  | .int i => i
  | _ => 0
def permD : PyData → Bool
  | .tuple es => decide (es.length = 5) && (es.all (isBD 5) && decide (es.map intD).Nodup)
  | _ => false
def tripD : PyData → Bool
  | .tuple [k, z, o] => isBD 60 k && (permD z && permD o)
  | _ => false
def wordD : PyData → Bool
  | .list es => decide (es.length ≤ 20000) && es.all tripD
  | _ => false
theorem ints_nat : ∀ {es : List PyData} {b : Nat}, es.all (isBD (b : Int)) = true → ∃ cs : List Nat, es = cs.map (fun (c : Nat) => PyData.int (c : Int)) ∧ ∀ c, c ∈ cs → c < b
  | [], _, _ => ⟨[], rfl, fun c h => by simp at h⟩
  | e :: es, b, h => by
    rw [List.all_cons, Bool.and_eq_true] at h
    obtain ⟨i, rfl, i0, i1⟩ := isBD_iff.mp h.1
    obtain ⟨cs, rfl, hc⟩ := ints_nat h.2
    refine ⟨i.toNat :: cs, ?_, fun c hc' => ?_⟩
    · rw [List.map_cons]
      congr 2
      omega
    · rcases List.mem_cons.mp hc' with rfl | hc'
      · omega
      · exact hc c hc'
theorem map_intD {cs : List Nat} : (cs.map fun (c : Nat) => PyData.int (c : Int)).map intD = cs.map fun (c : Nat) => (c : Int) := by rw [List.map_map]; rfl
theorem nodup_cast {cs : List Nat} : (cs.map fun (c : Nat) => (c : Int)).Nodup ↔ cs.Nodup := by
  unfold List.Nodup
  rw [List.pairwise_map]
  exact ⟨fun h => h.imp fun hh e => hh (by rw [e]), fun h => h.imp fun hh e => hh (Int.ofNat.inj e)⟩
theorem permD_iff {e : PyData} : permD e = true ↔ ∃ p, e = pmD p ∧ PmOk p := by
  constructor
  · intro h
    cases e with
    | tuple es =>
      have h : (decide (es.length = 5) && (es.all (isBD 5) && decide (es.map intD).Nodup)) = true := h
      rw [Bool.and_eq_true, Bool.and_eq_true (es.all _), decide_eq_true_iff, decide_eq_true_iff] at h
      obtain ⟨h1, h2, h3⟩ := h
      obtain ⟨cs, rfl, hc⟩ := ints_nat (b := 5) h2
      rw [map_intD, nodup_cast] at h3
      exact ⟨cs, rfl, by rw [List.length_map] at h1; exact h1, hc, h3⟩
    | _ => cases h
  · rintro ⟨p, rfl, h⟩
    show (decide ((p.map _).length = 5) && ((p.map _).all (isBD 5) && decide ((p.map _).map intD).Nodup)) = true
    rw [map_intD, List.length_map, decide_eq_true h.len, decide_eq_true (nodup_cast.mpr h.nd), Bool.and_true, Bool.true_and, List.all_eq_true]
    intro x hx
    obtain ⟨c, hc, rfl⟩ := List.mem_map.mp hx
    exact isBD_iff.mpr ⟨_, rfl, by omega, by have := h.lt c hc; omega⟩
theorem tripD_iff {e : PyData} : tripD e = true ↔ ∃ t, e = trD t ∧ TrOk t := by
  constructor
  · intro h
    match e, h with
    | .tuple [k, z, o], h =>
      have h : (isBD 60 k && (permD z && permD o)) = true := h
      rw [Bool.and_eq_true, Bool.and_eq_true (permD z)] at h
      obtain ⟨i, rfl, i0, i1⟩ := isBD_iff.mp h.1
      obtain ⟨p, rfl, hp⟩ := permD_iff.mp h.2.1
      obtain ⟨p2, rfl, hp2⟩ := permD_iff.mp h.2.2
      refine ⟨(i.toNat, p, p2), ?_, by show i.toNat < 60; omega, hp, hp2⟩
      show PyData.tuple _ = .tuple [.int ((i.toNat : Nat) : Int), _, _]
      rw [show ((i.toNat : Nat) : Int) = i by omega]
  · rintro ⟨t, rfl, h1, h2, h3⟩
    show (isBD 60 (.int (t.1 : Int)) && (permD (pmD t.2.1) && permD (pmD t.2.2))) = true
    rw [isBD_iff.mpr ⟨_, rfl, by omega, by omega⟩, permD_iff.mpr ⟨_, rfl, h2⟩, permD_iff.mpr ⟨_, rfl, h3⟩]
    rfl
theorem trips_of : ∀ {es : List PyData}, es.all tripD = true → ∃ ws : List Tr, es = ws.map trD ∧ ∀ t, t ∈ ws → TrOk t
  | [], _ => ⟨[], rfl, fun t h => by simp at h⟩
  | e :: es, h => by
    rw [List.all_cons, Bool.and_eq_true] at h
    obtain ⟨t, rfl, ht⟩ := tripD_iff.mp h.1
    obtain ⟨ws, rfl, hw⟩ := trips_of h.2
    refine ⟨t :: ws, rfl, fun x hx => ?_⟩
    rcases List.mem_cons.mp hx with rfl | hx
    · exact ht
    · exact hw x hx
theorem wordD_iff {e : PyData} : wordD e = true ↔ ∃ ws : List Tr, e = .list (ws.map trD) ∧ ws.length ≤ 20000 ∧ ∀ t, t ∈ ws → TrOk t := by
  constructor
  · intro h
    cases e with
    | list es =>
      have h : (decide (es.length ≤ 20000) && es.all tripD) = true := h
      rw [Bool.and_eq_true, decide_eq_true_iff] at h
      obtain ⟨ws, rfl, hw⟩ := trips_of h.2
      exact ⟨ws, rfl, by have := h.1; rw [List.length_map] at this; exact this, hw⟩
    | _ => cases h
  · rintro ⟨ws, rfl, hl, hw⟩
    show (decide ((ws.map trD).length ≤ 20000) && (ws.map trD).all tripD) = true
    rw [List.length_map, decide_eq_true hl, Bool.true_and, List.all_eq_true]
    intro x hx
    obtain ⟨t, ht, rfl⟩ := List.mem_map.mp hx
    exact tripD_iff.mpr ⟨t, rfl, hw t ht⟩
/-- what a word does -/
def stepW (bs : List Bool) (p : Nat) (t : Tr) : Nat := (if bs.getD t.1 false then t.2.2 else t.2.1).getD p 0
def effF (ws : List Tr) (bs : List Bool) (p : Nat) : Nat := ws.foldl (stepW bs) p
theorem effF_snoc {ws : List Tr} {t : Tr} {bs : List Bool} {p : Nat} : effF (ws ++ [t]) bs p = stepW bs (effF ws bs p) t := by
  unfold effF
  rw [List.foldl_append]
  rfl
theorem pm_get {p : List Nat} (h : PmOk p) {i : Nat} (hi : i < 5) : p[i]? = some (p.getD i 0) ∧ p.getD i 0 < 5 := by
  have hl : i < p.length := by rw [h.len]; exact hi
  have e : p.getD i 0 = p[i] := by rw [List.getD_eq_getElem?_getD, List.getElem?_eq_getElem hl]; rfl
  rw [e]
  exact ⟨List.getElem?_eq_getElem hl, h.lt _ (List.getElem_mem hl)⟩
theorem effF_lt {bs : List Bool} : ∀ {ws : List Tr} {p : Nat}, (∀ t, t ∈ ws → TrOk t) → p < 5 → effF ws bs p < 5
  | [], _, _, hp => hp
  | t :: ws, p, h, hp => by
    have ht := h t List.mem_cons_self
    refine effF_lt (p := stepW bs p t) (fun x hx => h x (List.mem_cons_of_mem _ hx)) ?_
    unfold stepW
    split
    · exact (pm_get ht.2.2 hp).2
    · exact (pm_get ht.2.1 hp).2
/-- the bits that a word needs -/
def needW (ws : List Tr) : Nat := (ws.map fun t => t.1 + 1).foldr max 0
theorem needW_le {ws : List Tr} {t : Tr} (h : t ∈ ws) : t.1 + 1 ≤ needW ws := (foldr_max (cs := ws.map fun t => t.1 + 1) (t := 0)).2.1 _ (List.mem_map.mpr ⟨t, h, rfl⟩)
theorem needW_max {ws : List Tr} {m : Int} (h : (ws = [] ∧ m = 0) ∨ (m ∈ ws.map (fun t => ((t.1 : Int) + 1)) ∧ ∀ y, y ∈ ws.map (fun t => ((t.1 : Int) + 1)) → y ≤ m)) : m = (needW ws : Nat) := by
  rcases h with ⟨rfl, rfl⟩ | ⟨h1, h2⟩
  · rfl
  · obtain ⟨t, ht, rfl⟩ := List.mem_map.mp h1
    have k1 := needW_le ht
    have k2 : (needW ws : Int) ≤ (t.1 : Int) + 1 := by
      rcases (foldr_max (cs := ws.map fun t => t.1 + 1) (t := 0)).2.2 with e | e
      · have : needW ws = 0 := e
        omega
      · obtain ⟨u, hu, e⟩ := List.mem_map.mp e
        have := h2 _ (List.mem_map.mpr ⟨u, hu, rfl⟩)
        have e : u.1 + 1 = needW ws := e
        omega
    omega
theorem needW_60 {ws : List Tr} (h : ∀ t, t ∈ ws → TrOk t) : needW ws ≤ 60 := by
  rcases (foldr_max (cs := ws.map fun t => t.1 + 1) (t := 0)).2.2 with e | e
  · have : needW ws = 0 := e
    omega
  · obtain ⟨u, hu, e⟩ := List.mem_map.mp e
    have := (h u hu).1
    have e : u.1 + 1 = needW ws := e
    omega
end Br

/-! ### exceptions of the program: what a suite asks of the one it holds -/
namespace Br
open PySem PySem.Spec PyProof.Rows L2
theorem kit_ref {K : PySem.W.Frag} {D Y : Addr} {b : Bool} (hd : PySem.W.hasDictIn K Y = true) (ht : PySem.W.typeIn K (.ref Y) = some (.type "type")) (h : PySem.W.subIn K (.ref D) (.ref Y) = some b) (hs : PySem.W.subIn K (.ref Y) (.ref Y) = some true) : PySem.W.kitOne K (.ref D) (.ref Y) = some b := by
  unfold PySem.W.kitOne
  by_cases e : D = Y
  · subst e
    rw [h] at hs
    cases hs
    rw [if_pos (by simp)]
  · have hne : ((Value.ref D : Value) == Value.ref Y) = false := by
      rw [beq_eq_false_iff_ne]
      intro z
      cases z
      exact e rfl
    rw [hne, if_neg Bool.false_ne_true]
    obtain ⟨cd, hc, _⟩ := PySem.W.any_some hd
    have e2 : ((PySem.W.clsIn K Y).isSome && PySem.W.typeIn K (.ref Y) == some (.type "type")) = true := by rw [hc, ht]; rfl
    show (if ((PySem.W.clsIn K Y).isSome && PySem.W.typeIn K (.ref Y) == some (.type "type")) = true then PySem.W.subIn K (.ref D) (.ref Y) else none) = some b
    rw [if_pos e2]
    exact h
/-- isinstance(e, c), e what the suite holds, of whatever class -/
def rIsEQ (K : PySem.W.Frag) (a : Addr) (cls : Value) (d : Option Addr) : List V → Hp → VK → Prop := fun xs H Q => ∃ (D : Addr) (C : Addr) (b : Bool), cls = .ref D ∧ d = none ∧ ExcC K D ∧ xs = [.ref a, .ref C] ∧ PySem.W.kitOne K (.ref D) (.ref C) = some b ∧ Q (.bl b) H
theorem call_isEQ {X : Cx} {a : Addr} {oe : Obj} {cls : Value} {d : Option Addr} {pn : List (Addr × Obj)} {K : PySem.W.Frag} (hK : X.K = K) (hz : Zc cls d oe) (hf : ∃ vs, oe.data = .fields vs) : CallR (X.suite a ((a, oe) :: pn)) (.builtin "isinstance") (rIsEQ K a cls d) := by
  subst hK
  intro pins s σ H xs us Q I r h
  obtain ⟨D, C, b, rfl, rfl, hC, rfl, hk, q⟩ := h
  exact call_isE hC hz hf pins s σ H _ us Q I r ⟨.ref C, .ref C, b, rfl, fun u hu => hu, hk, q⟩
section
variable {σ : L2.St} {H : Hp} {D : Ends}
theorem x_callS {sp : Sp} {E : L2.St → XK} {t : TA} {Q : VK} (h : t σ H fun vs H1 => sp vs H1 Q (E σ)) : tCallS sp E t σ H Q := h
end
/-- a method's call within a try: what it raises is wished for at the slots as they stand -/
def tMethX (C : Addr) (m : Str) (sp : Sp) (E : L2.St → XK) (ta : TE) (t : TA) : TE := fun σ H Q => ta σ H fun x H1 => ∃ a dx fs, x = .ref a ∧ H1 a = some (.ins C dx fs) ∧ fs.lookup m = none ∧ t σ H1 fun vs H2 => sp (x :: vs) H2 Q (E σ)
theorem pe_methX {X : Cx} {CX : CXT} {k : Nat} {f C : Addr} {fd : FuncData} {ps : List Str} {sp : Sp} {E : L2.St → XK} {m : Str} {pos apos : Pos} {e o : Expr} {es : List Expr} {ta : TE} {t : TA} {pl : Sem Bool} (he : PE X o ta) (c : Cls X.K C) (hm : Meth X.K C m f)
    (F : FnOk X.prog X.w X.K X.mg X.base CX k f fd ps sp) (hr : Room k X.A) (hb : Binds X.K fd ps []) (hx : ∀ σ, PassesAt CX X σ (E σ)) (ha : PA X (e :: es) t)
    (hst : starEach (e :: es) X.env = (false, eval e X.env) :: starEach es X.env := by rfl) (hpl : (backTo pos (starEach es X.env)).any (·.1) = false := by rfl)
    (ht : eval (.Call (.Attribute o m apos) (e :: es) [] pos) X.env = (do
      let ov ← eval o X.env
      standAt apos.atName
      let (f, first) ← holding [ov] (getMethod ov m pl)
      callWith pos f first (backTo pos (starEach (e :: es) X.env)) (backToKw pos (keywordEach [] X.env))) := by rfl) :
    PE X (.Call (.Attribute o m apos) (e :: es) [] pos) (tMethX C m sp E ta t) := by
  refine ⟨fun pins s σ H Q I h => ?_⟩
  refine PySem.W.methodCall_KW (pl := pl) (thn (he.run pins s σ H _ I h) fun u s1 ⟨x, H1, I1, rx, a, dx, fs, ex, ea, l, q⟩ => ?_) ht
  subst ex
  obtain rfl : u = Value.ref a := rx
  refine getmeth_ok I1 ea c hm l ?_
  refine PySem.W.callWith_K (first := [.ref a]) (h₀ := X.base) I.ok.mod.kin hm.kp (thn (ha.run pos pins s1 σ H1 _ I1 q) fun us s2 ⟨vs, H2, I2, r, q2⟩ => ⟨I2.kIn, ?_⟩) hst hpl
  exact run_fnS (us := .ref a :: us) (vs := .ref a :: vs) F hr hb (hx σ) I2 (.cons rfl r) q2
theorem x_methX {C : Addr} {m : Str} {sp : Sp} {E : L2.St → XK} {ta : TE} {t : TA} {σ : L2.St} {H : Hp} {Q : VK} (h : ta σ H fun x H1 => ∃ a dx fs, x = .ref a ∧ H1 a = some (.ins C dx fs) ∧ fs.lookup m = none ∧ t σ H1 fun vs H2 => sp (x :: vs) H2 Q (E σ)) : tMethX C m sp E ta t σ H Q := h
/-! texts with numbers -/
theorem x_fmt {te : TE} {σ : L2.St} {H : Hp} {Q : VK} (h : te σ H fun x H1 => (∃ y : Str, x = .str y ∧ y.length ≤ sizeLine ∧ Q (.str y) H1) ∨ ∃ i : Int, x = .int i ∧ i.natAbs.log2 < 1920 ∧ Q (.str (toString i)) H1) : tFmt te σ H Q := h
theorem len_nat {n : Nat} (h : n < 10 ^ 10) : (Str.ofString (toString (n : Int))).length ≤ 10 := toString_length_le (Int.natCast_nonneg n) (by decide) (by exact_mod_cast h)
theorem log_nat {n : Nat} (h : n < 2 ^ 64) : ((n : Int)).natAbs.log2 < 1920 := by
  rw [Int.natAbs_natCast]
  by_cases h0 : n = 0
  · subst h0; decide
  · have := (Nat.log2_lt h0).mpr h
    omega
end Br
/-! isinstance(e, (C1, C2, ..)), e what the suite holds -/
namespace Br
open PySem PySem.Spec PyProof.Rows L2
def rIsEQT (K : PySem.W.Frag) (a : Addr) (cls : Value) (d : Option Addr) : List V → Hp → VK → Prop := fun xs H Q => ∃ (D tp : Addr) (cs : List V) (us : List Value) (b : Bool), cls = .ref D ∧ d = none ∧ ExcC K D ∧ xs = [.ref a, .ref tp] ∧ H tp = some (.tup cs) ∧ Paired ClsV cs us ∧ PySem.W.kitAny K (.ref D) us = some b ∧ Q (.bl b) H
theorem call_isEQT {X : Cx} {a : Addr} {oe : Obj} {cls : Value} {d : Option Addr} {pn : List (Addr × Obj)} {K : PySem.W.Frag} (hK : X.K = K) (hz : Zc cls d oe) (hf : ∃ vs, oe.data = .fields vs) : CallR (X.suite a ((a, oe) :: pn)) (.builtin "isinstance") (rIsEQT K a cls d) := by
  subst hK
  intro pins s σ H xs us Q I r h
  obtain ⟨D, tp, cs, ws, b, rfl, rfl, C, rfl, hT, k, e, q⟩ := h
  obtain ⟨u1, u2, rfl, rx, rt⟩ := vals2 r
  cases (show u2 = Value.ref tp from rt)
  cases (show u1 = Value.ref a from rx)
  obtain ⟨hget, _⟩ := I.pin (a, oe) (List.mem_append.mpr (.inl List.mem_cons_self))
  obtain ⟨vs, hv⟩ := hf
  have J : PySem.W.InstAt s.heap a oe D none := by
    obtain ⟨oc, od, oda, osl⟩ := oe
    obtain ⟨h1, h2⟩ := hz
    dsimp only at h1 h2 hv
    subst h1 h2 hv
    exact ⟨hget, rfl, rfl, trivial⟩
  obtain ⟨_, its, rv, o, h1, h2, n, h3⟩ := (show ObjOk _ _ H s.heap tp (.tup cs) from I.hok tp _ hT)
  have e3 := ClsV.all k rv
  subst e3
  obtain ⟨oc, od, dt, sl⟩ := o
  simp only at h2 h3
  subst h2 h3
  exact PySem.W.kia_tup (PySem.W.handS_kitx_exc C.hg C.hk C.hs C.hd C.ha C.hn C.ht C.hm) I.kIn J h1 e (fun z => nomatch z) fun tk => ⟨.bl b, H, I.kept (t' := tk) fun _ _ z => z, rfl, q⟩
end Br
namespace Br
open PySem PySem.Spec PyProof.Rows L2
/-! isinstance(e, ValueError), e what the suite holds -/
def rIsEV (K : PySem.W.Frag) (a : Addr) (cls : Value) (d : Option Addr) : List V → Hp → VK → Prop := fun xs H Q => ∃ (D : Addr) (T : String) (b : Bool), cls = .ref D ∧ d = none ∧ ExcC K D ∧ xs = [.ref a, .ty T] ∧ PySem.W.kitOne K (.ref D) (.type T) = some b ∧ Q (.bl b) H
theorem call_isEV {X : Cx} {a : Addr} {oe : Obj} {cls : Value} {d : Option Addr} {pn : List (Addr × Obj)} {K : PySem.W.Frag} (hK : X.K = K) (hz : Zc cls d oe) (hf : ∃ vs, oe.data = .fields vs) : CallR (X.suite a ((a, oe) :: pn)) (.builtin "isinstance") (rIsEV K a cls d) := by
  subst hK
  intro pins s σ H xs us Q I r h
  obtain ⟨D, T, b, rfl, rfl, hC, rfl, hk, q⟩ := h
  exact call_isE hC hz hf pins s σ H _ us Q I r ⟨.ty T, .type T, b, rfl, fun u hu => hu, hk, q⟩
theorem kit_val {K : PySem.W.Frag} {D : Addr} (h : PySem.W.subIn K (.ref D) (.type "ValueError") = some true) : PySem.W.kitOne K (.ref D) (.type "ValueError") = some true := by
  unfold PySem.W.kitOne
  rw [if_neg (by rw [show ((Value.ref D : Value) == Value.type "ValueError") = false from rfl]; decide)]
  show (if PySem.W.kitMeta "ValueError" = true then PySem.W.subIn K (.ref D) (.type "ValueError") else none) = some true
  rw [if_pos (by decide +kernel)]
  exact h
end Br

/-! ### data: changes elsewhere, changes of an item -/
namespace Br
open PySem PySem.Spec PyProof.Rows L2
section
variable {d c : Addr} {H H' : Hp}
mutual
theorem DAt.keep2 (hc : ∃ ys, H c = some (.lst ys)) (k : Keep c H H') : ∀ (e : PyData) {v : V}, DAt c H v e → DAt d H v e → DAt d H' v e
  | .none, _, _, h => by cases h; exact .non
  | .bool b, _, _, h => by cases h; exact .bl b
  | .int i, _, _, h => by cases h; exact .int i
  | .str x, _, _, h => by cases h; exact .str x
  | .list ds, _, h1, h => by
    cases h1 with
    | lst hn1 h1 hs1 =>
      cases h with
      | lst hn h hs =>
        rw [h] at h1
        cases h1
        exact .lst hn (k _ _ h hn1) (DAts.keep2 hc k ds hs1 hs)
  | .tuple ds, _, h1, h => by
    obtain ⟨ys, hc'⟩ := id hc
    cases h1 with
    | tup h1 hs1 =>
      cases h with
      | tup h hs =>
        rw [h] at h1
        cases h1
        exact .tup (k _ _ h (ne_of h hc' (by intro z; cases z))) (DAts.keep2 hc k ds hs1 hs)
  | .dict _, _, _, h => by cases h
theorem DAts.keep2 (hc : ∃ ys, H c = some (.lst ys)) (k : Keep c H H') : ∀ (es : List PyData) {vs : List V}, DAts c H vs es → DAts d H vs es → DAts d H' vs es
  | [], _, _, h => by cases h; exact .nil
  | e :: es, _, h1, h => by
    cases h1 with
    | cons h1 hs1 =>
      cases h with
      | cons h hs => exact .cons (DAt.keep2 hc k e h1 h) (DAts.keep2 hc k es hs1 hs)
end
theorem DAts.set : ∀ {xs : List V} {es : List PyData} {i : Nat} {v : V} {e : PyData}, DAts d H xs es → DAt d H v e → DAts d H (xs.set i v) (es.set i e)
  | [], _, _, _, _, h, _ => by cases h; exact .nil
  | x :: xs, _, i, v, e, h, h1 => by
    cases h with
    | cons h hs =>
      cases i with
      | zero => exact .cons h1 hs
      | succ i => exact .cons h (hs.set h1)
theorem DAts.take : ∀ {xs : List V} {es : List PyData} {n : Nat}, DAts d H xs es → DAts d H (xs.take n) (es.take n)
  | [], _, n, h => by cases h; cases n <;> exact .nil
  | x :: xs, _, 0, h => by cases h; exact .nil
  | x :: xs, _, n + 1, h => by
    cases h with
    | cons h hs => exact .cons h hs.take
theorem DAts.drop : ∀ {xs : List V} {es : List PyData} {n : Nat}, DAts d H xs es → DAts d H (xs.drop n) (es.drop n)
  | [], _, n, h => by cases h; cases n <;> exact .nil
  | x :: xs, _, 0, h => h
  | x :: xs, _, n + 1, h => by
    cases h with
    | cons h hs => exact hs.drop
/-- a value that needs no object -/
def FlatD (v : V) (e : PyData) : Prop := ∀ d H, DAt d H v e
/-- data apart from every list that stood before -/
def DNew (H0 H : Hp) (v : V) (e : PyData) : Prop := ∀ p, H0 p ≠ none → DAt p H v e
theorem FlatD.new {H0 H : Hp} {v : V} {e : PyData} (h : FlatD v e) : DNew H0 H v e := fun p _ => h p H
end
theorem x_andP {t u : TT} {σ : L2.St} {H : Hp} {QT : Bool → Hp → Prop} (b1 b2 : Bool) (h1 : ∀ R : Bool → Hp → Prop, R b1 H → t σ H R) (h2 : b1 = true → ∀ R : Bool → Hp → Prop, R b2 H → u σ H R) (h : QT (b1 && b2) H) : tAnd t u σ H QT := by
  refine h1 _ ?_
  cases b1 with
  | true => exact iteT (h2 rfl _ h)
  | false => exact iteF h
theorem x_orI {u : TT} {σ : L2.St} {H : Hp} {QT : Bool → Hp → Prop} {b1 : Bool} (b2 : Bool) (h2 : b1 = false → ∀ R : Bool → Hp → Prop, R b2 H → u σ H R) (h : QT (b1 || b2) H) : if b1 = true then QT true H else u σ H QT := by
  cases b1 with
  | true => exact iteT h
  | false => exact iteF (h2 rfl _ h)
theorem x_andI {u : TT} {σ : L2.St} {H : Hp} {QT : Bool → Hp → Prop} {b1 : Bool} (b2 : Bool) (h2 : b1 = true → ∀ R : Bool → Hp → Prop, R b2 H → u σ H R) (h : QT (b1 && b2) H) : if b1 = true then u σ H QT else QT false H := by
  cases b1 with
  | true => exact iteT (h2 rfl _ h)
  | false => exact iteF h
end Br

/-! ### what is a list of gates, read back -/
namespace Br
open PySem PySem.Spec PyProof.Rows L2
theorem risF_nat : ∀ {es : List PyData} {l : Int}, -1 ≤ l → risF l es = true → ∃ cs : List Nat, es = cs.map (fun (c : Nat) => PyData.int (c : Int)) ∧ cs.Pairwise (· < ·) ∧ ∀ c, c ∈ cs → c < 120 ∧ l < (c : Int)
  | [], _, _, _ => ⟨[], rfl, .nil, fun c h => by simp at h⟩
  | .int i :: es, l, hl, hr => by
    have hr : ((decide (0 ≤ i) && decide (i < 120)) && (decide (l < i) && risF i es)) = true := hr
    rw [Bool.and_eq_true, Bool.and_eq_true (decide (l < i)), Bool.and_eq_true, decide_eq_true_iff, decide_eq_true_iff, decide_eq_true_iff] at hr
    obtain ⟨⟨h0, h1⟩, h2, h3⟩ := hr
    obtain ⟨cs, rfl, hp, hc⟩ := risF_nat (by omega) h3
    obtain ⟨c, rfl⟩ : ∃ c : Nat, i = (c : Int) := ⟨i.toNat, by omega⟩
    refine ⟨c :: cs, rfl, List.pairwise_cons.mpr ⟨fun x hx => by have := (hc x hx).2; omega, hp⟩, fun x hx => ?_⟩
    rcases List.mem_cons.mp hx with rfl | hx
    · omega
    · have := hc x hx
      omega
  | .none :: _, _, _, hr => by cases hr
  | .bool _ :: _, _, _, hr => by cases hr
  | .str _ :: _, _, _, hr => by cases hr
  | .list _ :: _, _, _, hr => by cases hr
  | .tuple _ :: _, _, _, hr => by cases hr
  | .dict _ :: _, _, _, hr => by cases hr
theorem gateD_iff {e : PyData} : gateD e = true ↔ ∃ g, e = gtD g ∧ GtOk 120 g := by
  constructor
  · intro h
    match e, h with
    | .tuple [t, .tuple es], h =>
      have h : (isBD 120 t && (risF (-1) es && !hasD t es)) = true := h
      rw [Bool.and_eq_true, Bool.and_eq_true] at h
      obtain ⟨h1, h2, h3⟩ := h
      obtain ⟨i, rfl, i0, i1⟩ := isBD_iff.mp h1
      obtain ⟨cs, rfl, hp, hc⟩ := risF_nat (by decide) h2
      obtain ⟨t, rfl⟩ : ∃ c : Nat, i = (c : Int) := ⟨i.toNat, by omega⟩
      refine ⟨(t, cs), rfl, ⟨by show t < 120; omega, fun c hc2 => (hc c hc2).1, fun hm => ?_, hp⟩⟩
      have hf : hasD (.int (t : Int)) (cs.map fun (c : Nat) => PyData.int (c : Int)) = false := by simpa using h3
      unfold hasD at hf
      rw [List.any_eq_false] at hf
      exact hf (.int (t : Int)) (List.mem_map.mpr ⟨t, hm, rfl⟩) (by show decide ((t : Int) = (t : Int)) = true; exact decide_eq_true rfl)
  · rintro ⟨g, rfl, ok⟩
    exact gateD_ok ok
theorem gatesD_iff {e : PyData} : gatesD e = true ↔ ∃ gs : List Gt, e = .list (gs.map gtD) ∧ gs.length ≤ 60000 ∧ ∀ g, g ∈ gs → GtOk 120 g := by
  constructor
  · intro h
    cases e with
    | list es =>
      have h : (decide (es.length ≤ 60000) && es.all gateD) = true := h
      rw [Bool.and_eq_true, decide_eq_true_iff] at h
      have : ∀ es : List PyData, es.all gateD = true → ∃ gs : List Gt, es = gs.map gtD ∧ ∀ g, g ∈ gs → GtOk 120 g := by
        intro es
        induction es with
        | nil => intro _; exact ⟨[], rfl, fun g h => by simp at h⟩
        | cons e es ih =>
          intro h
          rw [List.all_cons, Bool.and_eq_true] at h
          obtain ⟨gs, rfl, hg⟩ := ih h.2
          obtain ⟨g, rfl, ok⟩ := gateD_iff.mp h.1
          refine ⟨g :: gs, rfl, fun x hx => ?_⟩
          rcases List.mem_cons.mp hx with rfl | hx
          · exact ok
          · exact hg x hx
      obtain ⟨gs, rfl, hg⟩ := this es h.2
      exact ⟨gs, rfl, by have := h.1; rw [List.length_map] at this; exact this, hg⟩
    | _ => cases h
  · rintro ⟨gs, rfl, hl, ok⟩
    show (decide ((gs.map gtD).length ≤ 60000) && (gs.map gtD).all gateD) = true
    rw [List.length_map, decide_eq_true hl, Bool.true_and, List.all_eq_true]
    intro e he
    obtain ⟨g, hg, rfl⟩ := List.mem_map.mp he
    exact gateD_ok (ok g hg)
/-- the bits that gates need -/
def needG (gs : List Gt) : Nat := (gs.map topG).foldr max 0
theorem needG_max {gs : List Gt} {m : Int} (h : (gs.map fun g => ((topG g : Nat) : Int)) = [] ∧ m = 0 ∨ m ∈ (gs.map fun g => ((topG g : Nat) : Int)) ∧ ∀ y, y ∈ (gs.map fun g => ((topG g : Nat) : Int)) → y ≤ m) : m = ((needG gs : Nat) : Int) := by
  obtain ⟨f1, f2, f3⟩ := foldr_max (cs := gs.map topG) (t := 0)
  rcases h with ⟨h, rfl⟩ | ⟨h, hle⟩
  · rw [List.map_eq_nil_iff.mp h]; rfl
  · obtain ⟨g, hg, rfl⟩ := List.mem_map.mp h
    have k1 := f2 _ (List.mem_map.mpr ⟨g, hg, rfl⟩)
    have k2 : ((needG gs : Nat) : Int) ≤ ((topG g : Nat) : Int) := by
      rcases f3 with f3 | f3
      · unfold needG; rw [f3]; omega
      · obtain ⟨g2, hg2, e2⟩ := List.mem_map.mp f3
        have := hle _ (List.mem_map.mpr ⟨g2, hg2, rfl⟩)
        unfold needG
        rw [← e2]
        exact this
    have k3 : topG g ≤ needG gs := k1
    omega
theorem needG_le {gs : List Gt} {n : Nat} (h : ∀ g, g ∈ gs → GtOk n g) : needG gs ≤ n := by
  rcases (foldr_max (cs := gs.map topG) (t := 0)).2.2 with e | e
  · unfold needG; rw [e]; exact Nat.zero_le _
  · obtain ⟨g, hg, e2⟩ := List.mem_map.mp e
    unfold needG
    rw [← e2]
    exact topG_le (h g hg)
theorem needG_ge {gs : List Gt} {g : Gt} (h : g ∈ gs) : topG g ≤ needG gs := (foldr_max (cs := gs.map topG) (t := 0)).2.1 _ (List.mem_map.mpr ⟨g, h, rfl⟩)
theorem GtOk.top {n m : Nat} {g : Gt} (ok : GtOk n g) (h : topG g ≤ m) : GtOk m g := by
  obtain ⟨f1, f2, _⟩ := foldr_max (cs := g.2) (t := g.1)
  have h : g.2.foldr max g.1 + 1 ≤ m := h
  exact ⟨by omega, fun c hc => by have := f2 c hc; omega, ok.ne, ok.up⟩
theorem gtD_inj : Function.Injective gtD := fun a b hab => by
  obtain ⟨t, cs⟩ := a
  obtain ⟨u, ds⟩ := b
  have h := PyData.tuple.inj hab
  obtain ⟨h1, h2⟩ := List.cons.inj h
  have h2 := PyData.tuple.inj (List.cons.inj h2).1
  have h1 : (t : Int) = (u : Int) := PyData.int.inj h1
  have h2 : cs = ds := (List.map_inj_right (fun _ _ z => Int.ofNat.inj (PyData.int.inj z))).mp h2
  rw [h2, Int.ofNat.inj h1]
theorem gts_inj {a b : List Gt} (h : a.map gtD = b.map gtD) : a = b := (List.map_inj_right gtD_inj).mp h
theorem gtD_at {d : Addr} {H : Hp} {v : V} {g : Gt} (h : DAt d H v (gtD g)) : ∃ a, v = .ref a ∧ GtAt H a g := by
  unfold gtD at h
  cases h with
  | tup h hs =>
    rename_i a xs
    cases hs with
    | cons h1 hs =>
      cases hs with
      | cons h2 hs =>
        cases hs
        cases h1
        cases h2 with
        | tup h2 hs2 =>
          rename_i c ys
          have : ∀ {cs : List Nat} {ys : List V}, DAts d H ys (cs.map fun (c : Nat) => PyData.int (c : Int)) → ys = cInts cs := by
            intro cs
            induction cs with
            | nil => intro ys h; cases h; rfl
            | cons c cs ih =>
              intro ys h
              cases h with
              | cons h hs => cases h; rw [ih hs]; rfl
          exact ⟨a, rfl, c, h, by rw [h2, this hs2]⟩
theorem DAts.gts {d : Addr} {H : Hp} {xs : List V} {gs : List Gt} (h : DAts d H xs (gs.map gtD)) : ∃ as : List Addr, xs = as.map V.ref ∧ GtsAt H as gs := by
  induction gs generalizing xs with
  | nil => cases h; exact ⟨[], rfl, rfl, fun i x b h _ => by simp at h⟩
  | cons g gs ih =>
    cases h with
    | cons h hs =>
      obtain ⟨a, rfl, ha⟩ := gtD_at h
      obtain ⟨as, rfl, hl, hat⟩ := ih hs
      refine ⟨a :: as, rfl, congrArg (· + 1) hl, fun i x b h1 h2 => ?_⟩
      cases i with
      | zero => cases h1; cases h2; exact ha
      | succ i => exact hat i x b (by simpa using h1) (by simpa using h2)
theorem GtsAt.dats {d : Addr} {H : Hp} {as : List Addr} {gs : List Gt} (h : GtsAt H as gs) : DAts d H (as.map V.ref) (gs.map gtD) := by
  refine DAts.of (by rw [List.length_map, List.length_map, h.1]) fun i x e h1 h2 => ?_
  obtain ⟨b, hb, rfl⟩ := map_getR h1
  obtain ⟨g, hg, hat⟩ := h.get hb
  rw [List.getElem?_map, hg] at h2
  cases h2
  exact hat.dat
/-- what is no list of rising bits -/
theorem risF_bad : ∀ {es : List PyData} {l : Int} {e : PyData}, e ∈ es → isBD 120 e = false → risF l es = false
  | [], _, _, h, _ => by simp at h
  | .int i :: es, l, e, h, hb => by
    show ((decide (0 ≤ i) && decide (i < 120)) && (decide (l < i) && risF i es)) = false
    rcases List.mem_cons.mp h with rfl | h
    · rw [show (decide (0 ≤ i) && decide (i < 120)) = false from hb]; rfl
    · rw [risF_bad h hb, Bool.and_false, Bool.and_false]
  | .none :: _, _, _, _, _ => rfl
  | .bool _ :: _, _, _, _, _ => rfl
  | .str _ :: _, _, _, _, _ => rfl
  | .list _ :: _, _, _, _, _ => rfl
  | .tuple _ :: _, _, _, _, _ => rfl
  | .dict _ :: _, _, _, _, _ => rfl
theorem risF_two : ∀ {xs ys : List PyData} {l a b : Int}, b ≤ a → risF l (xs ++ .int a :: .int b :: ys) = false
  | [], ys, l, a, b, h => by
    show ((decide (0 ≤ a) && decide (a < 120)) && (decide (l < a) && ((decide (0 ≤ b) && decide (b < 120)) && (decide (a < b) && risF b ys)))) = false
    rw [decide_eq_false (show ¬ a < b by omega), Bool.false_and, Bool.and_false, Bool.and_false, Bool.and_false]
  | .int i :: xs, ys, l, a, b, h => by
    show ((decide (0 ≤ i) && decide (i < 120)) && (decide (l < i) && risF i (xs ++ .int a :: .int b :: ys))) = false
    rw [risF_two h, Bool.and_false, Bool.and_false]
  | .none :: _, _, _, _, _, _ => rfl
  | .bool _ :: _, _, _, _, _, _ => rfl
  | .str _ :: _, _, _, _, _, _ => rfl
  | .list _ :: _, _, _, _, _, _ => rfl
  | .tuple _ :: _, _, _, _, _, _ => rfl
  | .dict _ :: _, _, _, _, _, _ => rfl
theorem gateD_ris {t : PyData} {es : List PyData} (h : risF (-1) es = false) : gateD (.tuple [t, .tuple es]) = false := by
  show (isBD 120 t && (risF (-1) es && _)) = false
  rw [h, Bool.false_and, Bool.and_false]
theorem gateD_tgt {t c : PyData} (h : isBD 120 t = false) : gateD (.tuple [t, c]) = false := by
  cases c with
  | tuple es =>
    show (isBD 120 t && _) = false
    rw [h, Bool.false_and]
  | _ => rfl
theorem gateD_has {t : Int} {es : List PyData} (h : PyData.int t ∈ es) : gateD (.tuple [.int t, .tuple es]) = false := by
  show (isBD 120 (.int t) && (risF (-1) es && !hasD (.int t) es)) = false
  have : hasD (.int t) es = true := by
    unfold hasD
    rw [List.any_eq_true]
    exact ⟨_, h, decide_eq_true rfl⟩
  rw [this, Bool.not_true, Bool.and_false, Bool.and_false]
theorem mem_setI {α : Type} {xs : List α} {i : Nat} {e : α} (h : i < xs.length) : e ∈ xs.set i e := List.mem_of_getElem? (List.getElem?_set_self h)
theorem gatesD_set {gs : List Gt} {i : Nat} {e : PyData} (hi : i < gs.length) (h : gateD e = false) : gatesD (.list ((gs.map gtD).set i e)) = false := by
  show (decide _ && ((gs.map gtD).set i e).all gateD) = false
  have : ((gs.map gtD).set i e).all gateD = false := List.all_eq_false.mpr ⟨e, mem_setI (by rw [List.length_map]; exact hi), by rw [h]; decide⟩
  rw [this, Bool.and_false]
theorem bitsD_set {bs : List Bool} {i : Nat} {e : PyData} {n : Int} (hi : i < bs.length) (h : isBlD e = false) : bitsD n (.list ((bs.map PyData.bool).set i e)) = false := by
  show (decide _ && ((bs.map PyData.bool).set i e).all isBlD) = false
  have : ((bs.map PyData.bool).set i e).all isBlD = false := List.all_eq_false.mpr ⟨e, mem_setI (by rw [List.length_map]; exact hi), by rw [h]; decide⟩
  rw [this, Bool.and_false]
theorem bitsD_short {bs : List Bool} {n : Int} (h : (bs.length : Int) < n) : bitsD n (blsD bs) = false := by
  show (decide (n ≤ ((bs.map PyData.bool).length : Int)) && _) = false
  rw [List.length_map, decide_eq_false (by omega), Bool.false_and]
end Br

/-! ### gates that are spread -/
namespace Br
open PySem PySem.Spec PyProof.Rows L2
theorem atI_back {α : Type} {xs : List α} {j : Nat} {v : α} (hj : j < xs.length) (h : xs[xs.length - 1 - j]? = some v) : atI xs (-1 - (j : Int)) = some v := by
  unfold atI ixN
  rw [if_neg (by omega), if_pos (by omega)]
  show xs[(-1 - (j : Int) + (xs.length : Int)).toNat]? = some v
  rw [show (-1 - (j : Int) + (xs.length : Int)).toNat = xs.length - 1 - j by omega]
  exact h
theorem atI_m1 {α : Type} {xs : List α} {v : α} (hj : 0 < xs.length) (h : xs[xs.length - 1]? = some v) : atI xs (-1) = some v := atI_back (j := 0) hj h
def two (t a b : Nat) : Gt := (t, if a < b then [a, b] else [b, a])
/-- what the borrowed bits must be -/
def borD (ns : List Int) (n : Int) : PyData → Bool
  | .list es => decide ((es.length : Int) = n) && (es.all (isBD 120) && decide ((ns ++ es.map intD).Nodup))
  | _ => false
def natsD (cs : List Nat) : List PyData := cs.map fun (c : Nat) => PyData.int (c : Int)
theorem natsD_of : ∀ {es : List PyData}, es.all (isBD 120) = true → ∃ bs : List Nat, es = natsD bs ∧ ∀ b, b ∈ bs → b < 120
  | [], _ => ⟨[], rfl, fun b h => by simp at h⟩
  | e :: es, h => by
    rw [List.all_cons, Bool.and_eq_true] at h
    obtain ⟨i, rfl, i0, i1⟩ := isBD_iff.mp h.1
    obtain ⟨bs, rfl, hb⟩ := natsD_of h.2
    obtain ⟨b, rfl⟩ : ∃ b : Nat, i = (b : Int) := ⟨i.toNat, by omega⟩
    refine ⟨b :: bs, rfl, fun x hx => ?_⟩
    rcases List.mem_cons.mp hx with rfl | hx
    · omega
    · exact hb x hx
theorem natsD_int {bs : List Nat} : (natsD bs).map intD = bs.map fun (c : Nat) => (c : Int) := by unfold natsD; rw [List.map_map]; rfl
theorem natsD_all {bs : List Nat} (h : ∀ b, b ∈ bs → b < 120) : (natsD bs).all (isBD 120) = true := by
  rw [List.all_eq_true]
  intro e he
  obtain ⟨b, hb, rfl⟩ := List.mem_map.mp he
  have := h b hb
  exact isBD_iff.mpr ⟨_, rfl, by omega, by omega⟩
theorem nodup_nat {ns : List Nat} : (ns.map fun (c : Nat) => (c : Int)).Nodup ↔ ns.Nodup := by
  constructor
  · intro h
    exact (List.pairwise_map.mp h).imp fun h e => h (by rw [e])
  · intro h
    exact List.pairwise_map.mpr (h.imp fun h e => h (by omega))
theorem borD_iff {t n : Nat} {cs : List Nat} {e : PyData} : borD ((t : Int) :: cs.map fun (c : Nat) => (c : Int)) (n : Int) e = true ↔ ∃ bs : List Nat, e = .list (natsD bs) ∧ bs.length = n ∧ (∀ b, b ∈ bs → b < 120) ∧ (t :: cs ++ bs).Nodup := by
  constructor
  · intro h
    cases e with
    | list es =>
      have h : (decide ((es.length : Int) = n) && (es.all (isBD 120) && decide ((((t : Int) :: cs.map fun (c : Nat) => (c : Int)) ++ es.map intD).Nodup))) = true := h
      rw [Bool.and_eq_true, Bool.and_eq_true, decide_eq_true_iff, decide_eq_true_iff] at h
      obtain ⟨h1, h2, h3⟩ := h
      obtain ⟨bs, rfl, hb⟩ := natsD_of h2
      rw [natsD_int] at h3
      refine ⟨bs, rfl, by unfold natsD at h1; rw [List.length_map] at h1; omega, hb, nodup_nat.mp ?_⟩
      rw [List.map_append]
      exact h3
    | _ => cases h
  · rintro ⟨bs, rfl, hl, hb, hn⟩
    show (decide (((natsD bs).length : Int) = n) && ((natsD bs).all (isBD 120) && decide ((((t : Int) :: cs.map fun (c : Nat) => (c : Int)) ++ (natsD bs).map intD).Nodup))) = true
    rw [natsD_all hb, natsD_int, Bool.true_and]
    have h1 : (natsD bs).length = n := by unfold natsD; rw [List.length_map]; exact hl
    have h2 := nodup_nat.mpr hn
    rw [List.map_append] at h2
    have h2 : (((t : Int) :: cs.map fun (c : Nat) => (c : Int)) ++ bs.map fun (c : Nat) => (c : Int)).Nodup := h2
    rw [decide_eq_true (by omega), decide_eq_true h2]
    rfl
def turnF (t : Nat) (bs : List Nat) : List Nat := t :: bs.reverse
def downF (t : Nat) (cs bs : List Nat) : List Gt := (List.range bs.length).map fun j => two ((turnF t bs).getD j 0) ((turnF t bs).getD (j + 1) 0) (cs.getD (cs.length - 1 - j) 0)
def lastF (t : Nat) (cs bs : List Nat) : Gt := ((turnF t bs).getD bs.length 0, cs.take 2)
def spreadF (t : Nat) (cs bs : List Nat) : List Gt := if bs = [] then [(t, cs)] else downF t cs bs ++ [lastF t cs bs] ++ (downF t cs bs).reverse ++ (downF t cs bs).drop 1 ++ [lastF t cs bs] ++ ((downF t cs bs).drop 1).reverse
theorem turn_len {t : Nat} {bs : List Nat} : (turnF t bs).length = bs.length + 1 := by unfold turnF; rw [List.length_cons, List.length_reverse]
theorem down_len {t : Nat} {cs bs : List Nat} : (downF t cs bs).length = bs.length := by unfold downF; rw [List.length_map, List.length_range]
theorem down_get {t k : Nat} {cs bs : List Nat} (h : k < bs.length) : (downF t cs bs)[k]? = some (two ((turnF t bs).getD k 0) ((turnF t bs).getD (k + 1) 0) (cs.getD (cs.length - 1 - k) 0)) := by
  unfold downF
  rw [List.getElem?_map, List.getElem?_range h]
  rfl
theorem cInts_at2 {cs : List Nat} {i : Nat} (h : i < cs.length) : (cInts cs)[i]? = some (.int ((cs.getD i 0 : Nat) : Int)) := by
  unfold cInts
  rw [List.getElem?_map, List.getElem?_eq_getElem h, List.getD_eq_getElem?_getD, List.getElem?_eq_getElem h]
  rfl
theorem cInts_rev {cs : List Nat} : (cInts cs).reverse = cInts cs.reverse := by unfold cInts; rw [List.map_reverse]
theorem cInts_app {cs ds : List Nat} : cInts cs ++ cInts ds = cInts (cs ++ ds) := by unfold cInts; rw [List.map_append]
theorem cInts_take {cs : List Nat} {n : Nat} : (cInts cs).take n = cInts (cs.take n) := by unfold cInts; rw [List.map_take]
theorem GtsAt.rev {H : Hp} {as : List Addr} {gs : List Gt} (h : GtsAt H as gs) : GtsAt H as.reverse gs.reverse := by
  refine ⟨by rw [List.length_reverse, List.length_reverse, h.1], fun i x b e1 e2 => ?_⟩
  have h1 := (List.getElem?_eq_some_iff.mp e1).1
  have h2 := (List.getElem?_eq_some_iff.mp e2).1
  rw [List.length_reverse] at h1 h2
  rw [List.getElem?_reverse h1] at e1
  rw [List.getElem?_reverse h2, h.1] at e2
  exact h.2 _ x b e1 e2
theorem GtsAt.app {H : Hp} {as bs : List Addr} {gs hs : List Gt} (h : GtsAt H as gs) (h2 : GtsAt H bs hs) : GtsAt H (as ++ bs) (gs ++ hs) := by
  refine ⟨by rw [List.length_append, List.length_append, h.1, h2.1], fun i x b e1 e2 => ?_⟩
  by_cases hi : i < gs.length
  · rw [List.getElem?_append_left hi] at e1
    rw [List.getElem?_append_left (by rw [h.1]; exact hi)] at e2
    exact h.2 i x b e1 e2
  · rw [List.getElem?_append_right (by omega)] at e1
    rw [List.getElem?_append_right (by rw [h.1]; omega), h.1] at e2
    exact h2.2 _ x b e1 e2
theorem GtsAt.drop {H : Hp} {as : List Addr} {gs : List Gt} (h : GtsAt H as gs) {n : Nat} : GtsAt H (as.drop n) (gs.drop n) :=
  ⟨by rw [List.length_drop, List.length_drop, h.1], fun i x b e1 e2 => h.2 (n + i) x b (by rw [← List.getElem?_drop]; exact e1) (by rw [← List.getElem?_drop]; exact e2)⟩
theorem GtsAt.one {H : Hp} {a : Addr} {g : Gt} (h : GtAt H a g) : GtsAt H [a] [g] := ⟨rfl, fun i x b e1 e2 => by
  cases i with
  | zero => cases e1; cases e2; exact h
  | succ i => simp at e1⟩
end Br

/-! ### sorted(set(xs)), xs a short list of areI -/
namespace Br
open PySem PySem.Spec PyProof.Rows L2
/-- an empty set as set() makes it -/
abbrev emptyS (w : World) : Obj := { cls := .type "set", dict := none, data := .set #[] 0 (.fresh 0 0 (!w.params.followText "set-order")) }
section
variable {P : Program} {w : World} {A : Around} {E : Value → Shared → Prop} {s : Shared}
set_option maxRecDepth 100000 in
set_option maxHeartbeats 3200000 in
theorem set_of_list {p : Addr} {us : Array Value} (zs : List Int) {Q : Value → Shared → Prop} (calm : A.handled = none) (isL : s.heap.IsList p us) (areI : IntsAre us.toList zs) (small : zs.length + 1 < scanBound)
    (fin : ∀ (g : Heap) (tk c : Nat), SetR w g s.heap.objs.size (fun j => decide (j ∈ zs)) c → c ≤ zs.length → (∀ b o, s.heap.get? b = some o → g.get? b = some o) → Q (.ref s.heap.objs.size) { s with heap := g, toks := tk }) :
    wpAny (model P w) A (call (.type "set") [.ref p]) Q E s := by
  have size : us.size = zs.length := (Array.length_toList (xs := us)).symm.trans areI.length
  obtain ⟨cm, tm, mroS⟩ := F.called_set.mro
  have madeS := F.called_set.made
  have subS := F.called_set.sub
  refine wpAny_call (codeAny_of_tree ?_)
  show wpAny (model P w) A.in1 (callAny (.type "set") _) _ _ s
  refine wpAny_pure (And.intro (Code.quiet_builtin _ (by decide +kernel)) (codeAny_builtin F.entry_type_call ?_))
  rw [Around.under_plain (weight_type_call_type "set" [.ref p] []) rfl]
  have nt := F.called_set.notType
  have cc := F.called_set.canCreate
  have tc := F.typeCall_set_1 (.ref p)
  repeat (any_goals first | assumption | wp_step)
  refine codeAny_mono (code_set_led1 (.ref p) (E := E) (Q₁ := fun obj t => obj = .ref s.heap.objs.size ∧ t = { s with heap := s.heap.push (emptyS w) }) ⟨rfl, rfl⟩) fun r t hr => ?_
  match r, hr with
  | .error e, hr => exact hr
  | .ok (.ret obj), ⟨e1, e2⟩ =>
    subst e1 e2
    have got : (s.heap.push (emptyS w)).get? s.heap.objs.size = some (emptyS w) := Heap.get?_push_size _ rfl
    have typ : Shared.TypeIs { s with heap := s.heap.push (emptyS w) } (.ref s.heap.objs.size) "set" := ⟨_, got, rfl⟩
    have il := F.called_set.init.lookup
    have ib := F.called_set.init.bind (.ref s.heap.objs.size)
    repeat (any_goals first | assumption | wp_step)
    refine codeAny_mono (codeAny_call_builtin (R := wants (fun r u => r = .none ∧ ∃ g tk c, u = { s with heap := g, toks := tk } ∧ SetR w g s.heap.objs.size (fun j => decide (j ∈ zs)) c ∧ c ≤ zs.length ∧ (∀ b o, s.heap.get? b = some o → g.get? b = some o)) E) F.called_set.init.plain F.entry_set_init (check_set_init_1 typ ?_)) fun r2 u hr2 => ?_
    · obtain ⟨⟨oc, od, oD, oS⟩, atP, hc, nl, hd⟩ := isL
      dsimp only at hc hd
      subst hc
      subst hd
      have atP2 : (s.heap.push (emptyS w)).get? p = some { cls := .type "list", dict := od, data := .seq us nl, slots := oS } := Heap.get?_push_of_some _ atP
      have s1 := F.sub_list_set
      have s2 := F.sub_list_frozenset
      have nd : (Value.type "list" == Value.type "dict") = false := by decide
      have isL2 : (s.heap.push (emptyS w)).IsList p us := ⟨_, atP2, rfl, nl, rfl⟩
      unfold Builtin.«set.__init__» noKeywords Builtin.Frozenset.updateFrom
      generalize hIt : pyIter = It
      wp_walk
      subst hIt
      refine wpAny_pyIter_list isL2 (wpAny_bind (wpAny_runValue ?_))
      have below : p < s.heap.objs.size := Heap.lt_size atP
      have calm3 : A.in1.in1.in1.handled = none := by simp [calm]
      have nz : (s.heap.push (emptyS w)).objs.size = s.heap.objs.size + 1 := Heap.size_push ..
      have apart : p ≠ (s.heap.push (emptyS w)).objs.size := by rw [nz]; exact Nat.ne_of_lt (Nat.lt_succ_of_lt below)
      have out : s.heap.objs.size ∉ [(s.heap.push (emptyS w)).objs.size, p] := fun hm => by
        rcases List.mem_cons.mp hm with h | h
        · rw [nz] at h
          exact absurd h (Nat.ne_of_lt (Nat.lt_succ_self _))
        · exact absurd (List.mem_singleton.mp h) (Nat.ne_of_gt below)
      have each : ∀ (i : Nat) (v : Value), us[i]? = some v → ∃ k t, zs[i]? = some k ∧ v = .int k t := fun i v hv => by
        have hi : i < zs.length := by have := (Array.getElem?_eq_some_iff.mp hv).1; omega
        obtain ⟨t, e⟩ := PyProof.Rows.IntsAre.int_at areI i v (by rw [Array.getElem?_toList]; exact hv)
        refine ⟨zs[i], t, List.getElem?_eq_getElem hi, ?_⟩
        rw [e, List.getD_eq_getElem?_getD, List.getElem?_eq_getElem hi]
        rfl
      refine set_update_ints ((Walks.list calm3 _ p apart us).toS) s.heap.objs.size out zs size small each (us.size - 0) 0 _ (by omega) (Nat.zero_le _) ⟨⟨_, Heap.get?_push_size _ rfl, rfl, rfl⟩, (isL2.push _)⟩ ⟨0, Nat.le_refl 0, setR_new_at (Heap.get?_push_of_some _ got)⟩ ?_
      rintro ⟨g, gg, dr, tk, os⟩ c mv hc hS
      obtain rfl : gg = s.gens := mv.gens
      obtain rfl : dr = s.drawn := mv.drawn
      obtain rfl : os = s.os := mv.os
      refine wpAny_pure ?_
      show wpAny (model P w) _ (ret Value.none) _ _ _
      refine wpAny_pure ⟨rfl, g, tk, c, rfl, hS, by omega, fun b o e => mv.heap b o (fun hm => ?_) (Heap.get?_push_of_some _ (Heap.get?_push_of_some _ e))⟩
      have bl : b < s.heap.objs.size := Heap.lt_size e
      rcases List.mem_cons.mp hm with h | h
      · exact absurd h (Nat.ne_of_lt bl)
      · have h2 := List.mem_singleton.mp h
        rw [nz] at h2
        exact absurd h2 (Nat.ne_of_lt (Nat.lt_succ_of_lt bl))
    · match r2, hr2 with
      | .error e, hr2 => exact hr2
      | .ok (.ret r), ⟨e1, g, tk, c, e2, hS, hc, keep⟩ =>
        subst e1 e2
        repeat (any_goals first | assumption | wp_step)
        exact fin _ _ _ hS hc keep
end
/-- sorted(set(xs)): each once, ascending, a new list -/
def tSortSet (K : PySem.W.Frag) (ta : TE) : TE := fun σ H Q => ta σ H fun x H1 => ∃ (l : Addr) (ns : List Int), x = V.ref l ∧ SqL K H1 l (ns.map V.int) ∧ ns.length < 60 ∧
  ∀ (zs : List Int) (p : Addr), zs.Pairwise (· < ·) → (∀ k, k ∈ zs ↔ k ∈ ns) → H1 p = none → Q (.ref p) (L2.upd H1 p (.lst (zs.map V.int)))
theorem pe_sortSet {X : Cx} {a : Expr} {ta : TE} {p p2 q pos : Pos} (hg : Gl X "sorted") (hm : X.mg "sorted" = none) (hg2 : Gl X "set") (hm2 : X.mg "set" = none) (ha : PE X a ta) (hc : X.calm = true := by rfl)
    (na : starEach [a] X.env = (false, eval a X.env) :: starEach [] X.env := by rfl) : PE X (.Call (.Name "sorted" p) [.Call (.Name "set" p2) [a] [] q] [] pos) (tSortSet X.K ta) := by
  refine ⟨fun pins s σ H Q I h => ?_⟩
  refine Call_ (ld_blt I hg hm (show bootBuiltins "sorted" = some (.builtin "sorted") by decide +kernel) ?_)
  refine PyProof.Rows.callWith_builtin1 (PyProof.Rows.args_cons ?_ rfl) rfl rfl
  refine Call_ (ld_blt I hg2 hm2 PyProof.Rows.boot_set ?_)
  refine PyProof.Rows.callWith_type1 (PyProof.Rows.args_cons (thn (ha.run pins s σ H _ I h) fun v s1 ⟨x, H1, I1, r1, q1⟩ => PyProof.Rows.args_nil ?_) na) na rfl
  obtain ⟨l, ns, rfl, hq, hl, q1⟩ := q1
  cases r1
  obtain ⟨its, r, pl, hz⟩ := I1.list hq
  refine set_of_list ns (I1.ok.hd hc) pl.isList (by simpa using r.ints) (by unfold scanBound; omega) fun g tk c hS hc9 keep => ?_
  refine PyProof.Rows.args_nil ?_
  have I2 : Inv X pins σ H1 { s1 with heap := g, toks := tk } := I1.kept keep
  refine sorted_set hS (I2.ok.hd hc) (by omega) fun s' b out n zs k gg o hb hgt hi hs hmem hlen => ?_
  have free : H1 b = none := I2.hok.fresh hb
  have hlen2 : (zs.map V.int).length ≤ sizeLine := by rw [List.length_map, hlen]; exact Nat.le_of_lt (Br.lt_line (by omega))
  have J : Inv X pins σ (L2.upd H1 b (.lst (zs.map V.int))) { { s1 with heap := g, toks := tk } with heap := s'.heap, gens := s'.gens, drawn := s'.drawn, toks := s'.toks } :=
    I2.call (ch := []) (Un.laid k hb free) (I2.hok.laid k hb ⟨hlen2, out.toList, n, vals_of_ints hi, hgt⟩) (by rw [gg]; exact I2.bare) (fun _ z => nomatch z)
  have e : s' = { { s1 with heap := g, toks := tk } with heap := s'.heap, gens := s'.gens, drawn := s'.drawn, toks := s'.toks } := by
    cases s'
    cases o
    rfl
  rw [e]
  exact ⟨.ref b, _, J, rfl, q1 zs b hs (fun k => by rw [hmem k]; exact decide_eq_true_iff) free⟩
end Br

/-! ### len(set(xs)), any ints -/
namespace Br
open PySem PySem.Spec PyProof.Rows L2
theorem nodup_le : ∀ {ks ns : List Int}, ks.Nodup → (∀ k, k ∈ ks → k ∈ ns) → ks.length ≤ ns.length
  | [], _, _, _ => Nat.zero_le _
  | k :: ks, ns, hn, hs => by
    rw [List.nodup_cons] at hn
    have hk := hs k List.mem_cons_self
    have h := nodup_le (ns := ns.erase k) hn.2 fun x hx => by
      have hx2 := hs x (List.mem_cons_of_mem _ hx)
      exact (List.mem_erase_of_ne (fun e => hn.1 (by rw [← e]; exact hx))).mpr hx2
    rw [List.length_erase_of_mem hk] at h
    have := List.length_pos_of_mem hk
    rw [List.length_cons]
    omega
theorem dup_at : ∀ {ns : List Int}, ¬ ns.Nodup → ∃ x, x ∈ ns ∧ x ∈ ns.erase x
  | [], h => absurd List.nodup_nil h
  | x :: r, h => by
    by_cases hx : x ∈ r
    · exact ⟨x, List.mem_cons_self, by rw [List.erase_cons_head]; exact hx⟩
    · have hr : ¬ r.Nodup := fun hr => h (List.nodup_cons.mpr ⟨hx, hr⟩)
      obtain ⟨y, h1, h2⟩ := dup_at hr
      have hne : x ≠ y := fun e => hx (by rw [e]; exact h1)
      refine ⟨y, List.mem_cons_of_mem _ h1, ?_⟩
      rw [List.erase_cons_tail (by simpa using hne)]
      exact List.mem_cons_of_mem _ h2
theorem card_iff {ks ns : List Int} (hn : ks.Nodup) (h : ∀ k, k ∈ ks ↔ k ∈ ns) : (ks.length = ns.length ↔ ns.Nodup) ∧ ks.length ≤ ns.length := by
  have hle := nodup_le hn fun k hk => (h k).mp hk
  refine ⟨⟨fun e => ?_, fun hs => ?_⟩, hle⟩
  · by_cases hd : ns.Nodup
    · exact hd
    · exfalso
      obtain ⟨x, h1, h2⟩ := dup_at hd
      have := nodup_le (ns := ns.erase x) hn fun k hk => by
        by_cases e : k = x
        · rw [e]; exact h2
        · exact (List.mem_erase_of_ne e).mpr ((h k).mp hk)
      rw [List.length_erase_of_mem h1] at this
      have := List.length_pos_of_mem h1
      omega
  · have := nodup_le hs fun k hk => (h k).mpr hk
    omega
theorem step_nodup {ks : List Int} {k : Int} (h : ks.Nodup) : (step_dedup ks k).Nodup ∧ ∀ x, x ∈ step_dedup ks k ↔ x ∈ ks ∨ x = k := by
  unfold step_dedup
  split
  · rename_i hb
    obtain ⟨y, hy, e⟩ := List.any_eq_true.mp hb
    have : y = k := by simpa using e
    subst this
    refine ⟨h, fun x => ⟨.inl, fun z => z.elim id fun e => by rw [e]; exact hy⟩⟩
  · rename_i hb
    have hk : k ∉ ks := fun hk => hb (List.any_eq_true.mpr ⟨k, hk, by simp⟩)
    refine ⟨List.nodup_append.mpr ⟨h, by simp, fun a ha b hb e => hk (by rw [← List.mem_singleton.mp hb, ← e]; exact ha)⟩, fun x => by simp⟩
theorem firstMet_spec {ns : List Int} : ∀ i, i ≤ ns.length → (firstMet (fun i => ns.getD i 0) i).Nodup ∧ ∀ x, x ∈ firstMet (fun i => ns.getD i 0) i ↔ x ∈ ns.take i
  | 0, _ => ⟨List.nodup_nil, fun x => by show x ∈ [] ↔ x ∈ ns.take 0; simp⟩
  | i + 1, hi => by
    obtain ⟨h1, h2⟩ := firstMet_spec (ns := ns) i (Nat.le_of_lt hi)
    obtain ⟨k1, k2⟩ := step_nodup (k := ns.getD i 0) h1
    rw [firstMet_succ]
    refine ⟨k1, fun x => ?_⟩
    have e : ns.getD i 0 = ns[i] := by rw [List.getD_eq_getElem?_getD, List.getElem?_eq_getElem hi]; rfl
    have e2 : ns.take (i + 1) = ns.take i ++ [ns[i]] := by rw [List.take_add_one, List.getElem?_eq_getElem hi]; rfl
    rw [k2, h2, e, e2, List.mem_append, List.mem_singleton]
def tLenSet (K : PySem.W.Frag) (ta : TE) : TE := fun σ H Q => ta σ H fun x H1 => ∃ (l : Addr) (ns : List Int), x = V.ref l ∧ (SqL K H1 l (ns.map V.int) ∨ SqT K H1 l (ns.map V.int)) ∧ ns.length ≤ 4000 ∧ ∀ c : Nat, (c = ns.length ↔ ns.Nodup) → c ≤ ns.length → Q (.int (c : Nat)) H1
theorem pe_lenSetA {X : Cx} {a : Expr} {ta : TE} {p p2 q pos : Pos} (hg : Gl X "len") (hm : X.mg "len" = none) (hg2 : Gl X "set") (hm2 : X.mg "set" = none) (ha : PE X a ta) (hc : X.calm = true := by rfl)
    (na : starEach [a] X.env = (false, eval a X.env) :: starEach [] X.env := by rfl) : PE X (.Call (.Name "len" p) [.Call (.Name "set" p2) [a] [] q] [] pos) (tLenSet X.K ta) := by
  refine ⟨fun pins s σ H Q I h => ?_⟩
  refine Call_ (ld_blt I hg hm PySem.boot_len ?_)
  refine PyProof.Rows.callWith_builtin1 (PyProof.Rows.args_cons ?_ rfl) rfl rfl
  refine Call_ (ld_blt I hg2 hm2 PyProof.Rows.boot_set ?_)
  refine PyProof.Rows.callWith_type1 (PyProof.Rows.args_cons (thn (ha.run pins s σ H _ I h) fun v s1 ⟨x, H1, I1, r1, q1⟩ => PyProof.Rows.args_nil ?_) na) na rfl
  obtain ⟨l, ns, rfl, hq, hl, q1⟩ := q1
  cases r1
  rcases hq with hq | hq
  · obtain ⟨its, r, pl, hz⟩ := I1.list hq
    have hlen : its.toArray.size = ns.length := by rw [List.size_toArray, ← r.length, List.length_map]
    refine call_set_list (I1.ok.hd hc) pl.isList (ns := ns) (by simpa using r.ints) (by rw [hlen]; unfold scanBound; omega) fun h' tk hS hk => ?_
    rw [hlen] at hS
    obtain ⟨f1, f2⟩ := firstMet_spec (ns := ns) ns.length (Nat.le_refl _)
    rw [List.take_length] at f2
    obtain ⟨c1, c2⟩ := card_iff f1 f2
    refine PyProof.Rows.args_nil ?_
    obtain ⟨o, es, ep, t, ho, hex, hd, _, _, _, hf, hn⟩ := hS
    have I2 : Inv X pins σ H1 { s1 with heap := h', toks := tk } := I1.kept fun b o e => hk b o (Heap.lt_size e) e
    refine call_len_set ho hex hd hf (by rw [hn]; omega) ⟨.int ((es.size : Nat) : Int), H1, I2.tok _, ⟨_, rfl⟩, by rw [hn]; exact q1 _ c1 c2⟩
  · obtain ⟨its, r, pl, hz⟩ := I1.tuple hq
    refine call_set_tupI ns (I1.ok.hd hc) pl (by simpa using r.ints) (by unfold scanBound; omega) fun h' tk c hS _ hk => ?_
    refine PyProof.Rows.args_nil ?_
    obtain ⟨o, es, ep, t, ho, hex, hd, _, hnd, hS, _, hf, hn, _⟩ := hS
    obtain ⟨c1, c2⟩ := card_iff (ns := ns) hnd fun k => by rw [← hS k]; simp
    have hsz : (es.toList.map keyOf).length = c := by rw [List.length_map, Array.length_toList, hn]
    rw [hsz] at c1 c2
    have I2 : Inv X pins σ H1 { s1 with heap := h', toks := tk } := I1.kept hk
    refine call_len_set ho hex hd hf (by rw [hn]; omega) ⟨.int ((es.size : Nat) : Int), H1, I2.tok _, ⟨_, rfl⟩, by rw [hn]; exact q1 c c1 c2⟩
end Br

/-! ### a def that takes the rest of its arguments; cases of other forms; data in a match -/
namespace Br
open PySem PySem.Spec PyProof.Rows L2
def StarB (fd : FuncData) (ps : List Str) (pv : Str) : Prop := ∀ us rest : List Value, us.length = ps.length → bindArgs fd ⟨us ++ rest, []⟩ = (newTuple rest >>= fun t => pure (ps.zip us ++ [(pv, t)]))
def spStar (n : Nat) (sp : Sp) : Sp := fun vs H Q E => ∃ ws rest, vs = ws ++ rest ∧ ws.length = n ∧ rest.length ≤ sizeLine ∧ ∀ p, H p = Option.none → sp (ws ++ [V.ref p]) (L2.upd H p (.tup rest)) Q E
section
variable {P : Program} {w : World} {K : PySem.W.Frag} {mg : Str → Option Value} {base : Heap}
theorem star_ok {x qual : Str} {st : Stmt} {f : Addr} {fd : FuncData} {N ps : List Str} {pv : Str} {k : Nat} {sp : Sp} (F : Fun K x qual st f fd) (B : StarB fd ps pv) (S : FnScope N (ps ++ [pv]) (defScope st))
    (hbody : ∀ (cdv : Value) (A : Around) (outer : List Env) (s : Shared) (H : Hp) (vs : List V) (Q : VK) (E : XK), Room k (A.deeper (envOfC qual (defScope st) s.heap.objs.size f cdv)) → sp vs H Q E →
      ∃ t, PSs (cxOf CX0 P w K mg base N qual (defScope st) f cdv A outer s H E).nox (defBody st) t ∧ t { nx := fun _ H' => Q .non H', rt := Q } (start N vs) H) : FnR P w K mg base CX0 (k + 1) f (spStar ps.length sp) := by
  obtain ⟨oc, od, kV, doc, pm, an, cdv, ct, osl, rfl, lk, hcd⟩ := F.ex
  refine StX.fn_star lk hcd S StX.cxUp_none B fun A outer s H vs Q E hr hsp => ?_
  obtain ⟨t, h, q⟩ := hbody cdv A outer s H vs Q E hr hsp
  exact ⟨t, h.nox, q⟩
end
def tCallR (sp : Sp) (E : XK) (t : TA) : TE := fun σ H Q => t σ H fun vs H1 => sp vs H1 Q E
theorem x_callR {sp : Sp} {E : XK} {t : TA} {σ : L2.St} {H : Hp} {Q : VK} (h : t σ H fun vs H1 => sp vs H1 Q E) : tCallR sp E t σ H Q := h
section
variable {X : Cx}
theorem pe_callR {CX : CXT} {k : Nat} {f : Addr} {sp : Sp} {E : XK} {x : Str} {e : Expr} {es : List Expr} {t : TA} {p pos : Pos} (F : FnR X.prog X.w X.K X.mg X.base CX k f sp) (hr : Room k X.A) (hk : PySem.W.keepIn X.K (.ref f) = true) (hg : Gl X x) (hm : X.mg x = some (.ref f)) (hx : Passes CX X E)
    (ha : PA X (e :: es) t) (hdb : (x == ("__debug__" : Str)) = false := by decide) (he : starEach (e :: es) X.env = (false, eval e X.env) :: starEach es X.env := by rfl) (hpl : (backTo pos (starEach es X.env)).any (·.1) = false := by rfl) :
    PE X (.Call (.Name x p) (e :: es) [] pos) (tCallR sp E t) := by
  refine ⟨fun pins s σ H Q I h => ?_⟩
  refine wpAny_Call_Name_kw (ld_glob I hg hm ?_ hdb)
  refine PySem.W.callWith_K (h₀ := X.base) I.ok.mod.kin hk (thn (ha.run pos pins s σ H _ I h) fun us s1 ⟨vs, H1, I1, r, q⟩ => ⟨I1.kIn, ?_⟩) he hpl
  exact wpAny_call (run_fnR F hr hx I1 r q)
/-- a tuple of n parts, whatever they are -/
def tSeqA (K : PySem.W.Frag) (n : Nat) (is : List (Option Nat)) (body : TS) (rest : V → TS) : V → TS := fun v D σ H => ∃ (a : Addr) (xs : List V), v = .ref a ∧ SqT K H a xs ∧
  ((xs.length ≠ n ∧ rest v D σ H) ∨ (xs.length = n ∧ body D (bindS is xs σ) H))
theorem pcs_tup {n : Nat} {p3 : Pos} {ps : List Pattern} {is : List (Option Nat)} {body : List Stmt} {rest : List MatchCase} {tb : TS} {tr : V → TS} (hc : X.calm = true) (hp : PCap X ps is) (hb : PSs X body tb) (hr : PCs X rest tr) (hn : ps.length = n := by rfl)
    (hs : ps.findIdx? (·.isStar) = none := by rfl) (hw : (ps.all fun p => p.isWildcard || (p.isStar && p.names.isEmpty)) = false := by rfl) :
    PCs X (⟨.MatchSequence ps p3, none, body⟩ :: rest) (tSeqA X.K n is tb tr) := by
  refine ⟨fun first pins s σ H D v u I rv h => ?_⟩
  obtain ⟨a, xs, rfl, hx, h⟩ := h
  cases (show u = Value.ref a from rv)
  obtain ⟨its, ri, ht, hz⟩ := I.tuple hx
  have hl := ri.length
  have hfit : ((its.toArray.size : Nat) : Int) < 2 ^ 63 := by
    have h1 : its.length ≤ sizeLine := by rw [← hl]; exact hz
    have h2 : sizeLine < 2 ^ 63 := by decide
    have h3 : its.toArray.size < 2 ^ 63 := Nat.lt_of_le_of_lt (by simpa using h1) h2
    omega
  rcases h with ⟨hne, q⟩ | ⟨hxl, q⟩
  · refine wpAny_matchCases_cons (matchSeq_tuple_miss ht hfit (by simp; omega) ?_ hs hw)
    exact hr.run false pins _ σ H D (.ref a) _ (I.tok _) rfl q
  · have sz : its.toArray.size = ps.length := by simp at hxl ⊢; omega
    refine wpAny_matchCases_cons (matchSeq_tuple_hit ht hfit (by simpa using sz) ?_ hs hw)
    rw [show ps.length = its.toArray.size from sz.symm]
    refine unpackItems_tuple (I.ok.hd hc) ht fun h' hk => ?_
    have I2 : Inv X pins σ H { s with heap := h', toks := s.toks + 1 + 1 } := I.kept fun b o e => hk b o (Nat.ne_of_lt (Heap.lt_size e)) e
    refine each_caps hp.caps (by simpa using sz) ?_
    refine thn (hp.run pins _ σ H xs its I2 ri (by simpa using sz)) fun _ s4 I4 => ?_
    exact hb.run pins s4 _ H D I4 q
/-- any value, by a name -/
def tNameC (i : Nat) (body : TS) : V → TS := fun v D σ H => body D (σ.set i (some v)) H
theorem pcs_name {i : Nat} {x : Str} {pos : Pos} {body : List Stmt} {rest : List MatchCase} {t : TS} (hN : X.N.Nodup) (hi : X.N[i]? = some x) (hx : Loc X.env.scope x) (hb : PSs X body t) (hf : X.fn x = true ∨ X.env.scope.names.lookup x = some .local := by first | exact .inl rfl | exact .inr rfl) :
    PCs X (⟨.MatchAs none (some x) pos, none, body⟩ :: rest) (tNameC i t) :=
  ⟨fun _ pins s σ H D v u I r h => wpAny_matchCases_cons (wpAny_matchPattern_Capture (wpAny_assignInOrder_more (wpAny_bindName (store_ok I hN hi hx r (fun s' I' => wpAny_assignInOrder_none (hb.run pins s' _ H D I' h)) hf))))⟩
end
section
variable {σ : L2.St} {H : Hp} {D : Ends} {K : PySem.W.Frag} {v : V} {t : V → TS}
theorem x_caseA {n : Nat} {is : List (Option Nat)} {body : TS} {a : Addr} {xs : List V} (ha : SqT K H a xs) (hl : xs.length = n) (h : body D (bindS is xs σ) H) : tSeqA K n is body t (.ref a) D σ H := ⟨a, xs, rfl, ha, .inr ⟨hl, h⟩⟩
theorem x_caseAN {n : Nat} {is : List (Option Nat)} {body : TS} {a : Addr} {xs : List V} (ha : SqT K H a xs) (hl : xs.length ≠ n) (h : t (.ref a) D σ H) : tSeqA K n is body t (.ref a) D σ H := ⟨a, xs, rfl, ha, .inl ⟨hl, h⟩⟩
theorem x_nameC {i : Nat} {body : TS} (h : body D (σ.set i (some v)) H) : tNameC i body v D σ H := h
end
/-! data that may be compared -/
def Sh (e : PyData) : Prop := e.canLay0 = true ∧ e.depth ≤ 60
theorem Sh.shaped {e : PyData} (h : Sh e) : SeqAt.shaped e = true := by
  unfold SeqAt.shaped
  rw [h.1, Bool.true_and]
  exact decide_eq_true (by have := h.2; omega)
theorem canLayAll_mem : ∀ {es : List PyData}, PyData.canLayAll0 es = true ↔ ∀ e, e ∈ es → e.canLay0 = true
  | [] => ⟨fun _ e h => by simp at h, fun _ => rfl⟩
  | x :: es => by
    show (PyData.canLay0 x && PyData.canLayAll0 es) = true ↔ _
    rw [Bool.and_eq_true, canLayAll_mem (es := es)]
    exact ⟨fun h e he => (List.mem_cons.mp he).elim (fun e1 => by rw [e1]; exact h.1) (h.2 e), fun h => ⟨h x List.mem_cons_self, fun e he => h e (List.mem_cons_of_mem _ he)⟩⟩
theorem depthAll_mem : ∀ {es : List PyData} {n : Nat}, PyData.depthAll es ≤ n ↔ ∀ e, e ∈ es → e.depth ≤ n
  | [], n => ⟨fun _ e h => by simp at h, fun _ => by show PyData.depthAll [] ≤ n; rw [PyData.depthAll]; exact Nat.zero_le _⟩
  | x :: es, n => by
    have e : PyData.depthAll (x :: es) = max x.depth (PyData.depthAll es) := by rw [PyData.depthAll]
    rw [e, Nat.max_le, depthAll_mem (es := es)]
    exact ⟨fun h y hy => (List.mem_cons.mp hy).elim (fun e1 => by rw [e1]; exact h.1) (h.2 y), fun h => ⟨h x List.mem_cons_self, fun y hy => h y (List.mem_cons_of_mem _ hy)⟩⟩
/-- so deep at most -/
def ShN (n : Nat) (e : PyData) : Prop := e.canLay0 = true ∧ e.depth ≤ n
theorem ShN.sh {n : Nat} {e : PyData} (h : ShN n e) (hn : n ≤ 60) : Sh e := ⟨h.1, Nat.le_trans h.2 hn⟩
theorem ShN.mono {n m : Nat} {e : PyData} (h : ShN n e) (hn : n ≤ m) : ShN m e := ⟨h.1, Nat.le_trans h.2 hn⟩
theorem ShN.tup {n : Nat} {es : List PyData} (h : ∀ e, e ∈ es → ShN n e) : ShN (n + 1) (.tuple es) := by
  constructor
  · show PyData.canLayAll0 es = true
    exact canLayAll_mem.mpr fun e he => (h e he).1
  · rw [PyData.depth]
    have := depthAll_mem.mpr fun e he => (h e he).2
    omega
theorem ShN.lst {n : Nat} {es : List PyData} (h : ∀ e, e ∈ es → ShN n e) : ShN (n + 1) (.list es) := by
  constructor
  · show PyData.canLayAll0 es = true
    exact canLayAll_mem.mpr fun e he => (h e he).1
  · rw [PyData.depth]
    have := depthAll_mem.mpr fun e he => (h e he).2
    omega
theorem ShN.of_tup {n : Nat} {es : List PyData} (h : ShN (n + 1) (.tuple es)) : ∀ e, e ∈ es → ShN n e := fun e he => by
  obtain ⟨h1, h2⟩ := h
  have h1 : PyData.canLayAll0 es = true := h1
  rw [PyData.depth] at h2
  exact ⟨canLayAll_mem.mp h1 e he, depthAll_mem.mp (by omega) e he⟩
theorem Sh.of_tup {es : List PyData} (h : Sh (.tuple es)) : ∀ e, e ∈ es → Sh e := fun e he => by
  obtain ⟨h1, h2⟩ := h
  have h1 : PyData.canLayAll0 es = true := h1
  rw [PyData.depth] at h2
  exact ⟨canLayAll_mem.mp h1 e he, (depthAll_mem (n := 60)).mp (by omega) e he⟩
theorem ShN.int {n : Nat} {i : Int} : ShN n (.int i) := ⟨rfl, by rw [PyData.depth]; exact Nat.zero_le _⟩
theorem ShN.bl {n : Nat} {i : Bool} : ShN n (.bool i) := ⟨rfl, by rw [PyData.depth]; exact Nat.zero_le _⟩
theorem ShN.non {n : Nat} : ShN n .none := ⟨rfl, by rw [PyData.depth]; exact Nat.zero_le _⟩
theorem ShN.str {n : Nat} {x : Str} (h : PyData.strOk x = true) : ShN n (.str x) := ⟨h, by rw [PyData.depth]; exact Nat.zero_le _⟩
mutual
theorem DAt.dp {K : PySem.W.Frag} {d : Addr} {H : Hp} : ∀ (e : PyData) {v : V}, DAt d H v e → Dp K H v e
  | .none, _, h => by cases h; exact .non
  | .bool b, _, h => by cases h; exact .bl b
  | .int i, _, h => by cases h; exact .int i
  | .str x, _, h => by cases h; exact .str x
  | .list ds, _, h => by
    cases h with
    | lst hd h hs => exact .lst (sq_of h) (DAts.dp ds hs)
  | .tuple ds, _, h => by
    cases h with
    | tup h hs => exact .tup (st_of h) (DAts.dp ds hs)
  | .dict _, _, h => by cases h
theorem DAts.dp {K : PySem.W.Frag} {d : Addr} {H : Hp} : ∀ (es : List PyData) {vs : List V}, DAts d H vs es → DpAll K H vs es
  | [], _, h => by cases h; exact .nil
  | e :: es, _, h => by
    cases h with
    | cons h hs => exact .cons (DAt.dp e h) (DAts.dp es hs)
end
/-- does it begin with the word and have so many parts -/
def wordAt (es : List PyData) (n : Nat) (word : Str) : Bool := match es with
  | .str w :: er => decide (er.length + 1 = n) && decide (w = word)
  | _ => false
theorem eqv_str {e : PyData} {w : Str} : PyData.eqv e (.str w) = match e with | .str x => decide (x = w) | _ => false := by
  cases e with
  | str x => rw [PyData.eqv]; first | rfl | simp
  | none => rw [PyData.eqv]
  | bool b => rw [PyData.eqv]
  | int i => rw [PyData.eqv]
  | list xs => rw [PyData.eqv]
  | tuple xs => rw [PyData.eqv]
  | dict xs => rw [PyData.eqv]
theorem x_caseD {σ : L2.St} {H : Hp} {D : Ends} {K : PySem.W.Frag} {t : V → TS} {d a : Addr} {xs : List V} {es : List PyData} {n : Nat} {word : Str} {is : List (Option Nat)} {body : TS} (ha : SqT K H a xs) (hs : DAts d H xs es) (hsh : ∀ e, e ∈ es → Sh e) (hw : PyData.strOk word = true) (n0 : 0 < n)
    (h1 : ∀ (y : V) (ys : List V) (er : List PyData), xs = y :: ys → es = .str word :: er → er.length + 1 = n → DAts d H ys er → body D (bindS is ys σ) H) (h0 : wordAt es n word = false → t (.ref a) D σ H) : tSeqW K (rEqD K) n word is body t (.ref a) D σ H := by
  have hlen := hs.len
  refine ⟨a, xs, rfl, ha, ?_⟩
  by_cases hl : es.length = n
  · cases hs with
    | nil => simp at hl; omega
    | cons h hs =>
      rename_i y ys e er
      refine .inr ⟨y, ys, rfl, by rw [hlen]; exact hl, e, .str word, DAt.dp e h, .str word, (hsh e List.mem_cons_self).shaped, Sh.shaped ⟨hw, by rw [PyData.depth]; exact Nat.zero_le _⟩, _, rfl, ?_⟩
      rw [eqv_str]
      cases e with
      | str x =>
        show if decide (x = word) = true then _ else _
        by_cases hx : x = word
        · subst hx
          rw [if_pos (decide_eq_true rfl)]
          exact h1 y ys er rfl rfl hl hs
        · rw [if_neg (by rw [decide_eq_false hx]; decide)]
          refine h0 ?_
          show (decide _ && decide (x = word)) = false
          rw [decide_eq_false hx, Bool.and_false]
      | none => exact iteF (h0 rfl)
      | bool b => exact iteF (h0 rfl)
      | int i => exact iteF (h0 rfl)
      | list xs => exact iteF (h0 rfl)
      | tuple xs => exact iteF (h0 rfl)
      | dict xs => exact iteF (h0 rfl)
  · refine .inl ⟨by rw [hlen]; exact hl, h0 ?_⟩
    cases es with
    | nil => rfl
    | cons e er =>
      cases e with
      | str x =>
        show (decide (er.length + 1 = n) && _) = false
        rw [decide_eq_false (show ¬ er.length + 1 = n from hl), Bool.false_and]
      | _ => rfl
theorem v_str {a b : Str} : decide (V.str a = V.str b) = decide (a = b) := decide_eq_decide.mpr ⟨fun h => V.str.inj h, fun h => h ▸ rfl⟩
theorem x_EqS {i j : Str} {H : Hp} {Q : VK} (q : Q (.bl (decide (i = j))) H) : rEq (.str i) (.str j) H Q := ⟨rfl, v_str ▸ q⟩
theorem x_NeS {i j : Str} {H : Hp} {Q : VK} (q : Q (.bl (!decide (i = j))) H) : rNe (.str i) (.str j) H Q := ⟨rfl, by rw [v_str]; exact q⟩
end Br

/-! ### enumerate of a tuple -/
namespace Br
open PySem PySem.Spec PyProof.Rows L2
def IteT (K : PySem.W.Frag) (a : Addr) : It :=
  ⟨fun i H => ∃ (xs : List V) (x : V), SqT K H a xs ∧ xs[i]? = some x, fun i H v H' => ∃ T x, v = .ref T ∧ H T = none ∧ H' = upd H T (.tup [.int (i : Nat), x]) ∧ ∀ xs, SqT K H a xs → xs[i]? = some x, fun i H => ∃ xs : List V, SqT K H a xs ∧ xs.length = i⟩
theorem turn_enumT {P : Program} {w : World} {K : PySem.W.Frag} {elts : List Expr} {kk : Nat} {tpos : Pos} (a e it : Addr) :
    Turn P w K (.Tuple elts kk tpos) (IteT K a) [e, it] e (fun i h => (∃ old, IsEnum h e it ((i : Nat) : Int) old) ∧ h.IsTupleIter it a i ∧ e ≠ it ∧ e ≠ a) where
  mem := by simp
  obj := fun i h st b hb => by
    obtain ⟨⟨old, he⟩, ⟨o, ho, hc, hd⟩, _⟩ := st
    have e' : b = e ∨ b = it := by simpa using hb
    rcases e' with z | z
    · rw [z]; exact ⟨_, he, fun v q => nomatch q⟩
    · rw [z]; exact ⟨o, ho, fun v q => by rw [hd] at q; cases q⟩
  keep := fun i h h' st k => let ⟨⟨old, he⟩, hi, hne⟩ := st; ⟨⟨old, k e (by simp) _ he⟩, hi.at fun o q => k it (by simp) o q, hne⟩
  item := by
    intro X hP hw hK hc i pins s σ H E I hf st hg
    subst hP hw hK
    obtain ⟨⟨old, he⟩, hit, hne, hea⟩ := st
    obtain ⟨xs, x, hq, hx⟩ := hg
    obtain ⟨its, rv, p, hz⟩ := I.tuple hq
    obtain ⟨u, hu, ru⟩ := rv.get hx
    have hel : e < s.heap.objs.size := Heap.lt_size he
    have hil : it < s.heap.objs.size := by obtain ⟨_, q, _⟩ := hit; exact Heap.lt_size q
    have hd : X.A.in1.handled = none := I.ok.hd hc
    have nb : a ≠ it := fun e => by
      obtain ⟨o, eo, co, _⟩ := hit
      obtain ⟨o', eo', co', _⟩ := p
      rw [e, eo] at eo'
      cases eo'
      rw [co] at co'
      simp at co'
    have nx := rv.length
    have hlt : i < its.toArray.size := by
      have := (List.getElem?_eq_some_iff.mp hx).1
      simp
      omega
    refine wpAny_pyNext_enum_itemD (Draws.tuple hd it a nb its.toArray) he ⟨hit, p⟩ hlt hne (by simp; exact ⟨hne, hea⟩) fun x2 h' tk q2 ho hit' hT hsz hk => ?_
    have ex : x2 = u := by
      rw [List.getElem?_toArray, hu] at q2
      exact (Option.some.inj q2).symm
    subst ex
    refine ⟨_, rfl, wpAny_letOwnedTupleGo_enum (s := { s with heap := h', toks := tk + 1 }) ho fun h'' he' sb => ?_⟩
    have hT2 : h''.get? s.heap.objs.size = some { cls := .type "tuple", data := .seq #[.int i tk, x2] } := (sb.2 _ (Nat.ne_of_gt hel)).trans hT
    have new : ObjOk X.prog X.w (upd H s.heap.objs.size (.tup [.int (i : Nat), x])) h'' s.heap.objs.size (.tup [.int (i : Nat), x]) :=
      ⟨by show 2 ≤ sizeLine; decide, [.int i tk, x2], .cons ⟨_, rfl⟩ (.cons ru .nil), ⟨_, hT2, rfl, _, rfl⟩⟩
    have I1 : Inv X pins σ (upd H s.heap.objs.size (.tup [.int (i : Nat), x])) { s with heap := h'', toks := tk + 1 } :=
      I.turnedNew (ch := [e, it]) (t' := tk + 1) (fun b ob hb q => (sb.2 b (fun z => hb (by simp [z]))).trans (hk b ob (fun z => hb (by simp [z])) (fun z => hb (by simp [z])) q)) hf (Nat.le_refl _) new
    refine ⟨.ref s.heap.objs.size, _, I1, rfl, ⟨_, x, rfl, I.hok.fresh (Nat.le_refl _), rfl, fun ys hy => by rw [I.tuple_inj hy hq]; exact hx⟩, ⟨⟨x2, ?_⟩, hit'.1.at fun o q => (sb.2 it (Ne.symm hne)).trans q, hne, hea⟩, fun b hb => ?_⟩
    · have e1 : ((i + 1 : Nat) : Int) = (i : Int) + 1 := by omega
      rw [e1]; exact he'
    · have hb' : b < s.heap.objs.size := by
        have e' : b = e ∨ b = it := by simpa using hb
        rcases e' with z | z
        · rw [z]; exact hel
        · rw [z]; exact hil
      rw [upd_ne (Nat.ne_of_lt hb')]
      exact (hf b hb).1
  done := by
    intro X hP hw hK hc i pins s σ H E I hf st hg
    subst hP hw hK
    obtain ⟨⟨old, he⟩, hit, hne, hea⟩ := st
    obtain ⟨xs, hq, hx⟩ := hg
    obtain ⟨its, rv, p, hz⟩ := I.tuple hq
    obtain ⟨f0, f1, f2, f3, f4, f5⟩ := hf it (by simp)
    have hl := rv.length
    have hd : X.A.in1.handled = none := I.ok.hd hc
    have nb : a ≠ it := fun e => by
      obtain ⟨o, eo, co, _⟩ := hit
      obtain ⟨o', eo', co', _⟩ := p
      rw [e, eo] at eo'
      cases eo'
      rw [co] at co'
      simp at co'
    have hn : its.toArray.size = i := by simp; omega
    subst hn
    exact wpAny_pyNext_enum_endD (Draws.tuple hd it a nb its.toArray) he ⟨hit, p⟩ fun h' eb => ⟨rfl, I.turned (t' := s.toks) (fun b o hb q => eb b o hb q) f0 f1 f3 f4 f5⟩
  self := fun A i s Q E st h => let ⟨⟨_, he⟩, _⟩ := st; wpAny_pyIter_enum he h
set_option maxHeartbeats 1000000 in
theorem meets_enum_B0 {v : Value} {o : Obj} {H : Heap → Prop} (B : Begins v o H) :
    Meets (Builtin.«enumerate.__new__» ⟨[.type "enumerate", v], []⟩) (fun _ R s => H s.heap ∧
      R (.ok (.ret (.ref (s.heap.push o).objs.size))) { s with heap := (s.heap.push o).push { cls := .type "enumerate", data := .fields #[.none, .bool false, .ref s.heap.objs.size, rawInt 0, .none, .none] } }) :=
  .of_wp fun prog w A R s h => by
    obtain ⟨hp, g, d, tk, os⟩ := s; obtain ⟨h1, h⟩ := h
    have hsub := sub_enumerate
    have q1 : ∀ {A' : Around} {E : Value → Shared → Prop} {Q : Value → Shared → Prop}, Q (.ref hp.objs.size) ⟨hp.push o, g, d, tk, os⟩ → wpAny (model prog w) A' (pyIter v) Q E ⟨hp, g, d, tk, os⟩ :=
      fun q => B.iter prog w _ _ ⟨hp, g, d, tk, os⟩ _ h1 q
    wp_walk using q1
    refine wpAny_stack_any fun st => wpAny_pure ?_
    split
    · rename_i c _ _ _ _ _
      cases (c == Value.type "enumerate")
      · wp_walk using q1
        exact ⟨_, rfl, h⟩
      · wp_walk using q1
        exact ⟨_, rfl, h⟩
    · wp_walk using q1
      exact ⟨_, rfl, h⟩
theorem enum_begins0 {prog : Program} {w : World} {A : Around} {E : Value → Shared → Prop} {s : Shared} {v : Value} {o : Obj} {H : Heap → Prop} {Q : Value → Shared → Prop} (B : Begins v o H) (h1 : H s.heap)
    (h : ∀ h', IsEnum h' (s.heap.objs.size + 1) s.heap.objs.size 0 .none → h'.get? s.heap.objs.size = some o → h'.objs.size = s.heap.objs.size + 2 →
      (∀ b o, s.heap.get? b = some o → h'.get? b = some o) → Q (.ref (s.heap.objs.size + 1)) { s with heap := h' }) :
    wpAny (model prog w) A (call (.type "enumerate") [v]) Q E s := by
  refine callType_new F.called_enumerate (by decide) (F.typeCall_enumerate_1 _) (F.newCall_enumerate_1 _) (fun obj => F.args_object_init_2 obj _) F.entry_enumerate_new
    (meets_enum_B0 B) ⟨h1, ?_⟩
  have hz : (s.heap.push o).objs.size = s.heap.objs.size + 1 := Heap.size_push ..
  show _ ∧ _
  rw [hz]
  have he : IsEnum ((s.heap.push o).push { cls := .type "enumerate", data := .fields #[.none, .bool false, .ref s.heap.objs.size, rawInt 0, .none, .none] }) (s.heap.objs.size + 1) s.heap.objs.size 0 .none := by
    have := Heap.get?_push_size (s.heap.push o) (o := { cls := .type "enumerate", data := .fields #[.none, .bool false, .ref s.heap.objs.size, rawInt 0, .none, .none] }) rfl
    rw [hz] at this; exact this
  refine ⟨⟨_, he, rfl⟩, h _ he (Heap.get?_push_of_some _ (Heap.get?_push_size _ B.free)) (by rw [Heap.size_push, hz]) fun b o x => Heap.get?_push_of_some _ (Heap.get?_push_of_some _ x)⟩
def iEnumT (K : PySem.W.Frag) (ta : TA) : TI := fun σ H R => ta σ H fun vs H1 => ∃ a xs, vs = [.ref a] ∧ SqT K H1 a xs ∧ R (IteT K a) H1
theorem pi_enumT {X : Cx} {K2 : PySem.W.Frag} (hK : X.K = K2) {e : Expr} {ta : TA} {p pos tpos : Pos} {elts : List Expr} {kk : Nat} (hg : Gl X "enumerate") (hm : X.mg "enumerate" = none) (ha : PA X [e] ta) (hs : starEach [e] X.env = [(false, eval e X.env)] := by rfl) :
    PI X (.Tuple elts kk tpos) (.Call (.Name "enumerate" p) [e] [] pos) (iEnumT K2 ta) := by
  subst hK
  refine ⟨fun pins s σ H R I h => ?_⟩
  refine Call_ (ld_blt I hg hm boot_enumerate (PyProof.Rows.callWith_type1 (thn (ha.run pos pins s σ H _ I h) fun us s1 ⟨vs, H1, I1, r1, q1⟩ => ?_) hs rfl))
  obtain ⟨a, xs, ex, hq, q⟩ := q1
  subst ex
  cases r1 with
  | cons r rr =>
    cases rr
    cases r
    obtain ⟨its, rv, p', hz⟩ := I1.tuple hq
    have la : a < s1.heap.objs.size := by
      obtain ⟨_, e, _⟩ := id p'
      exact Heap.lt_size e
    refine enum_begins0 (begins_tuple a its.toArray) p' fun h' he hit hsz hk => wpAny_pyIter_enum he ?_
    have I2 : Inv X pins σ H1 { s1 with heap := h' } := I1.kept (t' := s1.toks) hk
    refine ⟨s1.heap.objs.size + 1, [s1.heap.objs.size + 1, s1.heap.objs.size], _, _, H1, rfl, I2, turn_enumT a (s1.heap.objs.size + 1) s1.heap.objs.size, ⟨⟨.none, he⟩, ⟨_, hit, rfl, rfl⟩, Nat.succ_ne_self _, Nat.ne_of_gt (Nat.lt_succ_of_lt la)⟩, fun b hb => ?_, q⟩
    have e' : b = s1.heap.objs.size + 1 ∨ b = s1.heap.objs.size := by simpa using hb
    have hle : s1.heap.objs.size ≤ b := by
      rcases e' with z | z
      · rw [z]; exact Nat.le_add_right _ _
      · rw [z]; exact Nat.le_refl _
    exact I1.fpOk hle (I1.hok.fresh hle)
def YEnT (xs : List V) : Nat → Hp → V → Hp → Prop := fun i H v H' => ∃ T x, v = .ref T ∧ H T = none ∧ H' = upd H T (.tup [.int (i : Nat), x]) ∧ xs[i]? = some x
theorem walk_enumT {K : PySem.W.Frag} {a : Addr} {xs : List V} : Walk (IteT K a) xs.length (fun H => SqT K H a xs) (YEnT xs) := by
  refine ⟨fun i H hi q => ⟨xs, xs[i], q, List.getElem?_eq_getElem hi⟩, fun H q => ⟨xs, q, rfl⟩, fun i H v H' hi q y => ?_⟩
  obtain ⟨T, x, e1, e2, e3, e4⟩ := y
  exact ⟨T, x, e1, e2, e3, e4 _ q⟩
/-- a comprehension over enumerate of a tuple, item by item -/
theorem x_lcEnT {K : PySem.W.Frag} {ta : TA} {te : TE} {vs : List Nat} {i j : Nat} {Q : VK} {σ : L2.St} {H : Hp} {a : Addr} {xs : List V} (f : Nat → V) (hn : ∀ R : List V → Hp → Prop, R [.ref a] H → ta σ H R) (ha : SqT K H a xs) (hl : xs.length ≤ 100000)
    (hv : ∀ x y, wipe (((wipe σ vs).set i (some x)).set j (some y)) vs = wipe σ vs) (hG : ∀ H', Same H H' → SqT K H' a xs)
    (he : ∀ (k : Nat) x H', Same H H' → xs[k]? = some x → ∀ R : VK, (∀ H2, Same H' H2 → R (f k) H2) → te (((wipe σ vs).set i (some (.int (k : Int)))).set j (some x)) H' R)
    (hd : ∀ p H', H p = none → Same H H' → H' p = some (.lst ((List.range xs.length).map f)) → Q (.ref p) H') : tLc (iEnumT K ta) (gTup K 2 (gCons (gName i) (gCons (gName j) gNil))) tYes te vs σ H Q := by
  refine x_lcI (J := IteT K a) (n := xs.length) (G := fun H => SqT K H a xs) (fun R r => hn _ ⟨a, xs, rfl, ha, r⟩) walk_enumT (fun p k H' => Same H H' ∧ H' p = some (.lst ((List.range k).map f))) (fun p hp => ⟨same_upd hp, upd_same⟩) (fun p k H' _ _ z => hG H' z.1) ?_ ?_ fun p H' hp z => hd p H' hp z.1 z.2
  · rintro p k x H' H2 hk hp ⟨hs, hl⟩ ⟨T, y, rfl, hT, rfl, hx⟩
    have sT := same_upd (o := .tup [.int (k : Nat), y]) hT
    refine x_gTup2 (st_of upd_same) ⟨hv _ _, he k y _ (hs.trans sT) hx _ fun H3 s3 => ?_⟩
    refine ⟨_, s3 _ _ (sT _ _ hl), lt_line (by simp; omega), sput ((hs.trans sT).trans s3) hp, ?_⟩
    rw [upd_same, List.range_succ, List.map_append]
    rfl
  · rintro x σ' H' R R' hr ⟨p, zs, e1, e2, e3, x1, r1, e4, x2, r2, e5, e6, h⟩
    exact ⟨p, zs, e1, e2, e3, x1, r1, e4, x2, r2, e5, e6, hr _ _ h⟩
end Br

/-! ### nodes that refer to nodes before them: Boolean sources as data -/
namespace Br
open PySem PySem.Spec PyProof.Rows L2
/-- values from left to right, each from those before it -/
def scanF {α β : Type} (f : List β → α → β) (ns : List α) : List β := ns.foldl (fun acc n => acc ++ [f acc n]) []
theorem scanF_snoc {α β : Type} {f : List β → α → β} {ns : List α} {n : α} : scanF f (ns ++ [n]) = scanF f ns ++ [f (scanF f ns) n] := by unfold scanF; rw [List.foldl_append]; rfl
theorem revRec {α : Type} {P : List α → Prop} (h0 : P []) (h1 : ∀ xs x, P xs → P (xs ++ [x])) : ∀ xs, P xs := fun xs => by
  have h : ∀ ys : List α, P ys.reverse := by
    intro ys
    induction ys with
    | nil => exact h0
    | cons y ys ih => rw [List.reverse_cons]; exact h1 _ _ ih
  have := h xs.reverse
  rw [List.reverse_reverse] at this
  exact this
theorem scanF_len {α β : Type} {f : List β → α → β} {ns : List α} : (scanF f ns).length = ns.length := by
  refine revRec (P := fun ns => (scanF f ns).length = ns.length) rfl (fun ns n ih => ?_) ns
  rw [scanF_snoc, List.length_append, List.length_append, ih]
  rfl
def isTupD : PyData → Bool
  | .tuple _ => true
  | _ => false
def nodesD : PyData → Bool
  | .tuple es => (decide (1 ≤ es.length) && decide (es.length ≤ 200)) && es.all isTupD
  | _ => false
theorem isBD_nat {i m : Nat} (h : i < m) : isBD (m : Int) (.int (i : Int)) = true := isBD_iff.mpr ⟨_, rfl, by omega, by omega⟩
theorem sh_cons {m : Nat} {e : PyData} {es : List PyData} (h : ShN m e) (hs : ∀ x, x ∈ es → ShN m x) : ∀ x, x ∈ e :: es → ShN m x := fun x hx => (List.mem_cons.mp hx).elim (fun e1 => by rw [e1]; exact h) (hs x)
theorem sh_nil {m : Nat} : ∀ x, x ∈ ([] : List PyData) → ShN m x := fun x hx => by simp at hx
theorem sh_app {m : Nat} {es fs : List PyData} (h : ∀ x, x ∈ es → ShN m x) (h2 : ∀ x, x ∈ fs → ShN m x) : ∀ x, x ∈ es ++ fs → ShN m x := fun x hx => (List.mem_append.mp hx).elim (h x) (h2 x)
theorem sh_take {m n : Nat} {es : List PyData} (h : ∀ x, x ∈ es → ShN m x) : ∀ x, x ∈ es.take n → ShN m x := fun x hx => h x (List.mem_of_mem_take hx)
theorem sh_drop {m n : Nat} {es : List PyData} (h : ∀ x, x ∈ es → ShN m x) : ∀ x, x ∈ es.drop n → ShN m x := fun x hx => h x (List.mem_of_mem_drop hx)
theorem sh_up {m k : Nat} {es : List PyData} (h : ∀ x, x ∈ es → ShN m x) (hm : m ≤ k) : ∀ x, x ∈ es → ShN k x := fun x hx => (h x hx).mono hm
/-! readings of slices and sums of tuples, the whole and the empty one included -/
theorem x_slA {K : PySem.W.Frag} {a : Addr} {xs : List V} {lo hi : Option Int} {H : Hp} {Q : VK} (hp : H a = some (.tup xs)) (q : ∀ r H', Same H H' → H' r = some (.tup (cutV xs lo hi)) → Q (.ref r) H') : rSlA K (.ref a) lo hi H Q := by
  refine ⟨a, xs, rfl, st_of hp, fun h => q a H (Same.refl _) ?_, fun _ p hn => q p _ (same_upd hn) upd_same⟩
  rw [hp]
  unfold cutV
  rw [h.1, h.2, List.drop_zero, Nat.sub_zero, List.take_length]
theorem x_catA {K : PySem.W.Frag} {a b : Addr} {xs ys : List V} {H : Hp} {Q : VK} (ha : H a = some (.tup xs)) (hb : H b = some (.tup ys)) (hl : xs.length + ys.length ≤ 1000000) (q : ∀ r H', Same H H' → H' r = some (.tup (xs ++ ys)) → Q (.ref r) H') : rCatA K (.ref a) (.ref b) H Q := by
  refine ⟨a, b, xs, ys, rfl, rfl, st_of ha, st_of hb, Nat.le_trans hl (by decide), fun h => q b H (Same.refl _) (by rw [h]; exact hb), fun _ h => q a H (Same.refl _) (by rw [h, List.append_nil]; exact ha), fun _ _ p hn => q p _ (same_upd hn) upd_same⟩
end Br










namespace Br
open PySem PySem.Spec PyProof.Rows L2
def topS (i : Nat) : Stmt := PySem.Challenge.pw_brimful_k04_programs_are_checked.main.body.getD i (.Pass ⟨0, 0, 0, 0⟩)
abbrev s_is_below : Stmt := topS 8
abbrev N_is_below : List Str := ["value", "bound"]
theorem sc_is_below : FnScope N_is_below ["value", "bound"] (defScope s_is_below) := ⟨rfl, rfl, rfl, by decide +kernel, rfl, by decide +kernel, by decide +kernel⟩
abbrev s_is_modulus : Stmt := topS 9
abbrev N_is_modulus : List Str := ["value"]
theorem sc_is_modulus : FnScope N_is_modulus ["value"] (defScope s_is_modulus) := ⟨rfl, rfl, rfl, by decide +kernel, rfl, by decide +kernel, by decide +kernel⟩
abbrev s_is_prime : Stmt := topS 10
abbrev N_is_prime : List Str := ["n", "divisor"]
theorem sc_is_prime : FnScope N_is_prime ["n"] (defScope s_is_prime) := ⟨rfl, rfl, rfl, by decide +kernel, rfl, by decide +kernel, by decide +kernel⟩
abbrev s_is_step : Stmt := topS 14
abbrev N_is_step : List Str := ["step", "modulus", "cells", "inputs", "target", "coefficient", "factors", "unit", "a", "b", "sign", "table"]
theorem sc_is_step : FnScope N_is_step ["step", "modulus", "cells", "inputs"] (defScope s_is_step) := ⟨rfl, rfl, rfl, by decide +kernel, rfl, by decide +kernel, by decide +kernel⟩
abbrev s_are_factors : Stmt := topS 15
abbrev N_are_factors : List Str := ["factors", "target", "cells", "inputs", "factor"]
theorem sc_are_factors : FnScope N_are_factors ["factors", "target", "cells", "inputs"] (defScope s_are_factors) := ⟨rfl, rfl, rfl, by decide +kernel, rfl, by decide +kernel, by decide +kernel⟩
abbrev s_is_factor : Stmt := topS 16
abbrev N_is_factor : List Str := ["factor", "target", "cells", "inputs", "at"]
theorem sc_is_factor : FnScope N_is_factor ["factor", "target", "cells", "inputs"] (defScope s_is_factor) := ⟨rfl, rfl, rfl, by decide +kernel, rfl, by decide +kernel, by decide +kernel⟩
abbrev s_are_three_cells : Stmt := topS 17
abbrev N_are_three_cells : List Str := ["target", "a", "b", "cells", "cell"]
theorem sc_are_three_cells : FnScope N_are_three_cells ["target", "a", "b", "cells"] (defScope s_are_three_cells) := ⟨rfl, rfl, rfl, by decide +kernel, rfl, by decide +kernel, by decide +kernel⟩
abbrev s_is_sign : Stmt := topS 18
abbrev N_is_sign : List Str := ["sign", "modulus"]
theorem sc_is_sign : FnScope N_is_sign ["sign", "modulus"] (defScope s_is_sign) := ⟨rfl, rfl, rfl, by decide +kernel, rfl, by decide +kernel, by decide +kernel⟩
abbrev s_is_table : Stmt := topS 19
abbrev N_is_table : List Str := ["table", "modulus", "row"]
theorem sc_is_table : FnScope N_is_table ["table", "modulus"] (defScope s_is_table) := ⟨rfl, rfl, rfl, by decide +kernel, rfl, by decide +kernel, by decide +kernel⟩
abbrev s_is_row : Stmt := topS 20
abbrev N_is_row : List Str := ["row", "size", "modulus", "value"]
theorem sc_is_row : FnScope N_is_row ["row", "size", "modulus"] (defScope s_is_row) := ⟨rfl, rfl, rfl, by decide +kernel, rfl, by decide +kernel, by decide +kernel⟩
abbrev s_check_sizes : Stmt := topS 27
abbrev N_check_sizes : List Str := ["modulus", "cells", "inputs"]
theorem sc_check_sizes : FnScope N_check_sizes ["modulus", "cells", "inputs"] (defScope s_check_sizes) := ⟨rfl, rfl, rfl, by decide +kernel, rfl, by decide +kernel, by decide +kernel⟩
abbrev s_check_steps : Stmt := topS 28
abbrev N_check_steps : List Str := ["steps", "modulus", "cells", "inputs", "at", "step"]
theorem sc_check_steps : FnScope N_check_steps ["steps", "modulus", "cells", "inputs"] (defScope s_check_steps) := ⟨rfl, rfl, rfl, by decide +kernel, rfl, by decide +kernel, by decide +kernel⟩
abbrev s_law_mixed : Stmt := topS 30
abbrev N_law_mixed : List Str := ["number", "k", "step"]
theorem sc_law_mixed : FnScope N_law_mixed ["number", "k"] (defScope s_law_mixed) := ⟨rfl, rfl, rfl, by decide +kernel, rfl, by decide +kernel, by decide +kernel⟩
abbrev s_law_numbers : Stmt := topS 31
abbrev N_law_numbers : List Str := ["script", "numbers", "cell", "rest", "k"]
theorem sc_law_numbers : FnScope N_law_numbers ["script"] (defScope s_law_numbers) := ⟨rfl, rfl, rfl, by decide +kernel, rfl, by decide +kernel, by decide +kernel⟩
abbrev s_law_draw : Stmt := topS 32
abbrev N_law_draw : List Str := ["draws", "at", "first"]
theorem sc_law_draw : FnScope N_law_draw ["draws"] (defScope s_law_draw) := ⟨rfl, rfl, rfl, by decide +kernel, rfl, by decide +kernel, by decide +kernel⟩
abbrev s_law_equal : Stmt := topS 33
abbrev N_law_equal : List Str := ["actual", "due"]
theorem sc_law_equal : FnScope N_law_equal ["actual", "due"] (defScope s_law_equal) := ⟨rfl, rfl, rfl, by decide +kernel, rfl, by decide +kernel, by decide +kernel⟩
abbrev s_law_all_equal : Stmt := topS 34
abbrev N_law_all_equal : List Str := ["actual", "due", "k"]
theorem sc_law_all_equal : FnScope N_law_all_equal ["actual", "due"] (defScope s_law_all_equal) := ⟨rfl, rfl, rfl, by decide +kernel, rfl, by decide +kernel, by decide +kernel⟩
abbrev s_law_large : Stmt := topS 35
abbrev N_law_large : List Str := ["draws", "bound", "number"]
theorem sc_law_large : FnScope N_law_large ["draws", "bound"] (defScope s_law_large) := ⟨rfl, rfl, rfl, by decide +kernel, rfl, by decide +kernel, by decide +kernel⟩
abbrev s_law_modulus : Stmt := topS 36
abbrev N_law_modulus : List Str := ["draws", "pick"]
theorem sc_law_modulus : FnScope N_law_modulus ["draws"] (defScope s_law_modulus) := ⟨rfl, rfl, rfl, by decide +kernel, rfl, by decide +kernel, by decide +kernel⟩
abbrev s_law_number : Stmt := topS 37
abbrev N_law_number : List Str := ["draws", "modulus", "pick"]
theorem sc_law_number : FnScope N_law_number ["draws", "modulus"] (defScope s_law_number) := ⟨rfl, rfl, rfl, by decide +kernel, rfl, by decide +kernel, by decide +kernel⟩
abbrev s_law_gcd : Stmt := topS 38
abbrev N_law_gcd : List Str := ["one", "two", "k", "rest"]
theorem sc_law_gcd : FnScope N_law_gcd ["one", "two"] (defScope s_law_gcd) := ⟨rfl, rfl, rfl, by decide +kernel, rfl, by decide +kernel, by decide +kernel⟩
abbrev s_law_unit : Stmt := topS 39
abbrev N_law_unit : List Str := ["draws", "modulus", "k", "number"]
theorem sc_law_unit : FnScope N_law_unit ["draws", "modulus"] (defScope s_law_unit) := ⟨rfl, rfl, rfl, by decide +kernel, rfl, by decide +kernel, by decide +kernel⟩
abbrev s_law_integer : Stmt := topS 40
abbrev N_law_integer : List Str := ["number", "low", "high"]
theorem sc_law_integer : FnScope N_law_integer ["number", "low", "high"] (defScope s_law_integer) := ⟨rfl, rfl, rfl, by decide +kernel, rfl, by decide +kernel, by decide +kernel⟩
abbrev s_law_prime_modulus : Stmt := topS 41
abbrev N_law_prime_modulus : List Str := ["number", "divisor"]
theorem sc_law_prime_modulus : FnScope N_law_prime_modulus ["number"] (defScope s_law_prime_modulus) := ⟨rfl, rfl, rfl, by decide +kernel, rfl, by decide +kernel, by decide +kernel⟩
abbrev s_law_prime : Stmt := topS 42
abbrev N_law_prime : List Str := ["draws"]
theorem sc_law_prime : FnScope N_law_prime ["draws"] (defScope s_law_prime) := ⟨rfl, rfl, rfl, by decide +kernel, rfl, by decide +kernel, by decide +kernel⟩
abbrev s_law_table : Stmt := topS 43
abbrev N_law_table : List Str := ["draws", "prime", "count", "i", "j"]
theorem sc_law_table : FnScope N_law_table ["draws", "prime"] (defScope s_law_table) := ⟨rfl, rfl, rfl, by decide +kernel, rfl, by decide +kernel, by decide +kernel⟩
abbrev s_law_factor : Stmt := topS 44
abbrev N_law_factor : List Str := ["draws", "target", "cells", "inputs"]
theorem sc_law_factor : FnScope N_law_factor ["draws", "target", "cells", "inputs"] (defScope s_law_factor) := ⟨rfl, rfl, rfl, by decide +kernel, rfl, by decide +kernel, by decide +kernel⟩
abbrev s_law_step : Stmt := topS 45
abbrev N_law_step : List Str := ["draws", "modulus", "cells", "inputs", "prime", "pick", "target", "other", "last", "places", "sign", "factors", "k"]
theorem sc_law_step : FnScope N_law_step ["draws", "modulus", "cells", "inputs", "prime"] (defScope s_law_step) := ⟨rfl, rfl, rfl, by decide +kernel, rfl, by decide +kernel, by decide +kernel⟩
abbrev s_law_program : Stmt := topS 46
abbrev N_law_program : List Str := ["draws", "most", "prime", "modulus", "cells", "inputs", "many", "steps", "k"]
theorem sc_law_program : FnScope N_law_program ["draws", "most"] (defScope s_law_program) := ⟨rfl, rfl, rfl, by decide +kernel, rfl, by decide +kernel, by decide +kernel⟩
abbrev s_law_is_factor : Stmt := topS 50
abbrev N_law_is_factor : List Str := ["factor", "target", "cells", "inputs"]
theorem sc_law_is_factor : FnScope N_law_is_factor ["factor", "target", "cells", "inputs"] (defScope s_law_is_factor) := ⟨rfl, rfl, rfl, by decide +kernel, rfl, by decide +kernel, by decide +kernel⟩
abbrev s_law_is_table : Stmt := topS 51
abbrev N_law_is_table : List Str := ["table", "modulus", "row", "number"]
theorem sc_law_is_table : FnScope N_law_is_table ["table", "modulus"] (defScope s_law_is_table) := ⟨rfl, rfl, rfl, by decide +kernel, rfl, by decide +kernel, by decide +kernel⟩
abbrev s_law_is_add : Stmt := topS 52
abbrev N_law_is_add : List Str := ["step", "modulus", "cells", "inputs", "factor"]
theorem sc_law_is_add : FnScope N_law_is_add ["step", "modulus", "cells", "inputs"] (defScope s_law_is_add) := ⟨rfl, rfl, rfl, by decide +kernel, rfl, by decide +kernel, by decide +kernel⟩
abbrev s_law_is_step : Stmt := topS 53
abbrev N_law_is_step : List Str := ["step", "modulus", "cells", "inputs", "prime"]
theorem sc_law_is_step : FnScope N_law_is_step ["step", "modulus", "cells", "inputs", "prime"] (defScope s_law_is_step) := ⟨rfl, rfl, rfl, by decide +kernel, rfl, by decide +kernel, by decide +kernel⟩
abbrev s_law_is_program : Stmt := topS 54
abbrev N_law_is_program : List Str := ["modulus", "cells", "inputs", "steps", "prime", "step"]
theorem sc_law_is_program : FnScope N_law_is_program ["modulus", "cells", "inputs", "steps"] (defScope s_law_is_program) := ⟨rfl, rfl, rfl, by decide +kernel, rfl, by decide +kernel, by decide +kernel⟩
abbrev s_law_odd : Stmt := topS 55
abbrev N_law_odd : List Str := ["draws", "model", "bounds", "things"]
theorem sc_law_odd : FnScope N_law_odd ["draws", "model"] (defScope s_law_odd) := ⟨rfl, rfl, rfl, by decide +kernel, rfl, by decide +kernel, by decide +kernel⟩
abbrev s_law_turned_table : Stmt := topS 56
abbrev N_law_turned_table : List Str := ["draws", "model", "table", "rows", "at", "place", "pick", "row"]
theorem sc_law_turned_table : FnScope N_law_turned_table ["draws", "model", "table"] (defScope s_law_turned_table) := ⟨rfl, rfl, rfl, by decide +kernel, rfl, by decide +kernel, by decide +kernel⟩
abbrev s_law_turned : Stmt := topS 57
abbrev N_law_turned : List Str := ["draws", "model", "step", "at", "pick", "place", "factor", "words"]
theorem sc_law_turned : FnScope N_law_turned ["draws", "model", "step"] (defScope s_law_turned) := ⟨rfl, rfl, rfl, by decide +kernel, rfl, by decide +kernel, by decide +kernel⟩
abbrev s_law_spoil : Stmt := topS 58
abbrev N_law_spoil : List Str := ["draws", "model", "pick", "steps", "at"]
theorem sc_law_spoil : FnScope N_law_spoil ["draws", "model"] (defScope s_law_spoil) := ⟨rfl, rfl, rfl, by decide +kernel, rfl, by decide +kernel, by decide +kernel⟩
abbrev s_law_kept : Stmt := topS 59
abbrev N_law_kept : List Str := ["program", "model", "steps"]
theorem sc_law_kept : FnScope N_law_kept ["program", "model", "steps"] (defScope s_law_kept) := ⟨rfl, rfl, rfl, by decide +kernel, rfl, by decide +kernel, by decide +kernel⟩
abbrev s_law_asked : Stmt := topS 60
abbrev N_law_asked : List Str := ["model", "good", "handed", "refused", "program", "e"]
theorem sc_law_asked : FnScope N_law_asked ["model"] (defScope s_law_asked) := ⟨rfl, rfl, rfl, by decide +kernel, rfl, by decide +kernel, by decide +kernel⟩
abbrev s_law : Stmt := topS 61
abbrev N_law : List Str := ["script", "draws", "turn", "model"]
theorem sc_law : FnScope N_law ["script"] (defScope s_law) := ⟨rfl, rfl, rfl, by decide +kernel, rfl, by decide +kernel, by decide +kernel⟩
abbrev s_Program___init : Stmt := inClass (topS 26) 0
abbrev N_Program___init : List Str := ["self", "modulus", "cells", "inputs", "steps"]
theorem sc_Program___init : FnScope N_Program___init ["self", "modulus", "cells", "inputs", "steps"] (defScope s_Program___init) := ⟨rfl, rfl, rfl, by decide +kernel, rfl, by decide +kernel, by decide +kernel⟩
abbrev s_Program___len : Stmt := inClass (topS 26) 1
abbrev N_Program___len : List Str := ["self"]
theorem sc_Program___len : FnScope N_Program___len ["self"] (defScope s_Program___len) := ⟨rfl, rfl, rfl, by decide +kernel, rfl, by decide +kernel, by decide +kernel⟩
structure Txt (K : PySem.W.Frag) (mg : Str → Option Value) where
  a_is_below : Addr
  fd_is_below : FuncData
  F_is_below : Fun K "is_below" "is_below" s_is_below a_is_below fd_is_below
  b_is_below : Binds K fd_is_below ["value", "bound"] []
  g_is_below : mg "is_below" = some (.ref a_is_below)
  a_is_modulus : Addr
  fd_is_modulus : FuncData
  F_is_modulus : Fun K "is_modulus" "is_modulus" s_is_modulus a_is_modulus fd_is_modulus
  b_is_modulus : Binds K fd_is_modulus ["value"] []
  g_is_modulus : mg "is_modulus" = some (.ref a_is_modulus)
  a_is_prime : Addr
  fd_is_prime : FuncData
  F_is_prime : Fun K "is_prime" "is_prime" s_is_prime a_is_prime fd_is_prime
  b_is_prime : Binds K fd_is_prime ["n"] []
  g_is_prime : mg "is_prime" = some (.ref a_is_prime)
  a_is_step : Addr
  fd_is_step : FuncData
  F_is_step : Fun K "is_step" "is_step" s_is_step a_is_step fd_is_step
  b_is_step : Binds K fd_is_step ["step", "modulus", "cells", "inputs"] []
  g_is_step : mg "is_step" = some (.ref a_is_step)
  a_are_factors : Addr
  fd_are_factors : FuncData
  F_are_factors : Fun K "_are_factors" "_are_factors" s_are_factors a_are_factors fd_are_factors
  b_are_factors : Binds K fd_are_factors ["factors", "target", "cells", "inputs"] []
  g_are_factors : mg "_are_factors" = some (.ref a_are_factors)
  a_is_factor : Addr
  fd_is_factor : FuncData
  F_is_factor : Fun K "_is_factor" "_is_factor" s_is_factor a_is_factor fd_is_factor
  b_is_factor : Binds K fd_is_factor ["factor", "target", "cells", "inputs"] []
  g_is_factor : mg "_is_factor" = some (.ref a_is_factor)
  a_are_three_cells : Addr
  fd_are_three_cells : FuncData
  F_are_three_cells : Fun K "_are_three_cells" "_are_three_cells" s_are_three_cells a_are_three_cells fd_are_three_cells
  b_are_three_cells : Binds K fd_are_three_cells ["target", "a", "b", "cells"] []
  g_are_three_cells : mg "_are_three_cells" = some (.ref a_are_three_cells)
  a_is_sign : Addr
  fd_is_sign : FuncData
  F_is_sign : Fun K "_is_sign" "_is_sign" s_is_sign a_is_sign fd_is_sign
  b_is_sign : Binds K fd_is_sign ["sign", "modulus"] []
  g_is_sign : mg "_is_sign" = some (.ref a_is_sign)
  a_is_table : Addr
  fd_is_table : FuncData
  F_is_table : Fun K "is_table" "is_table" s_is_table a_is_table fd_is_table
  b_is_table : Binds K fd_is_table ["table", "modulus"] []
  g_is_table : mg "is_table" = some (.ref a_is_table)
  a_is_row : Addr
  fd_is_row : FuncData
  F_is_row : Fun K "_is_row" "_is_row" s_is_row a_is_row fd_is_row
  b_is_row : Binds K fd_is_row ["row", "size", "modulus"] []
  g_is_row : mg "_is_row" = some (.ref a_is_row)
  a_check_sizes : Addr
  fd_check_sizes : FuncData
  F_check_sizes : Fun K "_check_sizes" "_check_sizes" s_check_sizes a_check_sizes fd_check_sizes
  b_check_sizes : Binds K fd_check_sizes ["modulus", "cells", "inputs"] []
  g_check_sizes : mg "_check_sizes" = some (.ref a_check_sizes)
  a_check_steps : Addr
  fd_check_steps : FuncData
  F_check_steps : Fun K "_check_steps" "_check_steps" s_check_steps a_check_steps fd_check_steps
  b_check_steps : Binds K fd_check_steps ["steps", "modulus", "cells", "inputs"] []
  g_check_steps : mg "_check_steps" = some (.ref a_check_steps)
  a_law_mixed : Addr
  fd_law_mixed : FuncData
  F_law_mixed : Fun K "_law_mixed" "_law_mixed" s_law_mixed a_law_mixed fd_law_mixed
  b_law_mixed : Binds K fd_law_mixed ["number", "k"] []
  g_law_mixed : mg "_law_mixed" = some (.ref a_law_mixed)
  a_law_numbers : Addr
  fd_law_numbers : FuncData
  F_law_numbers : Fun K "_law_numbers" "_law_numbers" s_law_numbers a_law_numbers fd_law_numbers
  b_law_numbers : Binds K fd_law_numbers ["script"] []
  g_law_numbers : mg "_law_numbers" = some (.ref a_law_numbers)
  a_law_draw : Addr
  fd_law_draw : FuncData
  F_law_draw : Fun K "_law_draw" "_law_draw" s_law_draw a_law_draw fd_law_draw
  b_law_draw : Binds K fd_law_draw ["draws"] []
  g_law_draw : mg "_law_draw" = some (.ref a_law_draw)
  a_law_equal : Addr
  fd_law_equal : FuncData
  F_law_equal : Fun K "_law_equal" "_law_equal" s_law_equal a_law_equal fd_law_equal
  b_law_equal : Binds K fd_law_equal ["actual", "due"] []
  g_law_equal : mg "_law_equal" = some (.ref a_law_equal)
  a_law_all_equal : Addr
  fd_law_all_equal : FuncData
  F_law_all_equal : Fun K "_law_all_equal" "_law_all_equal" s_law_all_equal a_law_all_equal fd_law_all_equal
  b_law_all_equal : Binds K fd_law_all_equal ["actual", "due"] []
  g_law_all_equal : mg "_law_all_equal" = some (.ref a_law_all_equal)
  a_law_large : Addr
  fd_law_large : FuncData
  F_law_large : Fun K "_law_large" "_law_large" s_law_large a_law_large fd_law_large
  b_law_large : Binds K fd_law_large ["draws", "bound"] []
  g_law_large : mg "_law_large" = some (.ref a_law_large)
  a_law_modulus : Addr
  fd_law_modulus : FuncData
  F_law_modulus : Fun K "_law_modulus" "_law_modulus" s_law_modulus a_law_modulus fd_law_modulus
  b_law_modulus : Binds K fd_law_modulus ["draws"] []
  g_law_modulus : mg "_law_modulus" = some (.ref a_law_modulus)
  a_law_number : Addr
  fd_law_number : FuncData
  F_law_number : Fun K "_law_number" "_law_number" s_law_number a_law_number fd_law_number
  b_law_number : Binds K fd_law_number ["draws", "modulus"] []
  g_law_number : mg "_law_number" = some (.ref a_law_number)
  a_law_gcd : Addr
  fd_law_gcd : FuncData
  F_law_gcd : Fun K "_law_gcd" "_law_gcd" s_law_gcd a_law_gcd fd_law_gcd
  b_law_gcd : Binds K fd_law_gcd ["one", "two"] []
  g_law_gcd : mg "_law_gcd" = some (.ref a_law_gcd)
  a_law_unit : Addr
  fd_law_unit : FuncData
  F_law_unit : Fun K "_law_unit" "_law_unit" s_law_unit a_law_unit fd_law_unit
  b_law_unit : Binds K fd_law_unit ["draws", "modulus"] []
  g_law_unit : mg "_law_unit" = some (.ref a_law_unit)
  a_law_integer : Addr
  fd_law_integer : FuncData
  F_law_integer : Fun K "_law_integer" "_law_integer" s_law_integer a_law_integer fd_law_integer
  b_law_integer : Binds K fd_law_integer ["number", "low", "high"] []
  g_law_integer : mg "_law_integer" = some (.ref a_law_integer)
  a_law_prime_modulus : Addr
  fd_law_prime_modulus : FuncData
  F_law_prime_modulus : Fun K "_law_prime_modulus" "_law_prime_modulus" s_law_prime_modulus a_law_prime_modulus fd_law_prime_modulus
  b_law_prime_modulus : Binds K fd_law_prime_modulus ["number"] []
  g_law_prime_modulus : mg "_law_prime_modulus" = some (.ref a_law_prime_modulus)
  a_law_prime : Addr
  fd_law_prime : FuncData
  F_law_prime : Fun K "_law_prime" "_law_prime" s_law_prime a_law_prime fd_law_prime
  b_law_prime : Binds K fd_law_prime ["draws"] []
  g_law_prime : mg "_law_prime" = some (.ref a_law_prime)
  a_law_table : Addr
  fd_law_table : FuncData
  F_law_table : Fun K "_law_table" "_law_table" s_law_table a_law_table fd_law_table
  b_law_table : Binds K fd_law_table ["draws", "prime"] []
  g_law_table : mg "_law_table" = some (.ref a_law_table)
  a_law_factor : Addr
  fd_law_factor : FuncData
  F_law_factor : Fun K "_law_factor" "_law_factor" s_law_factor a_law_factor fd_law_factor
  b_law_factor : Binds K fd_law_factor ["draws", "target", "cells", "inputs"] []
  g_law_factor : mg "_law_factor" = some (.ref a_law_factor)
  a_law_step : Addr
  fd_law_step : FuncData
  F_law_step : Fun K "_law_step" "_law_step" s_law_step a_law_step fd_law_step
  b_law_step : Binds K fd_law_step ["draws", "modulus", "cells", "inputs", "prime"] []
  g_law_step : mg "_law_step" = some (.ref a_law_step)
  a_law_program : Addr
  fd_law_program : FuncData
  F_law_program : Fun K "_law_program" "_law_program" s_law_program a_law_program fd_law_program
  b_law_program : Binds K fd_law_program ["draws", "most"] []
  g_law_program : mg "_law_program" = some (.ref a_law_program)
  a_law_is_factor : Addr
  fd_law_is_factor : FuncData
  F_law_is_factor : Fun K "_law_is_factor" "_law_is_factor" s_law_is_factor a_law_is_factor fd_law_is_factor
  b_law_is_factor : Binds K fd_law_is_factor ["factor", "target", "cells", "inputs"] []
  g_law_is_factor : mg "_law_is_factor" = some (.ref a_law_is_factor)
  a_law_is_table : Addr
  fd_law_is_table : FuncData
  F_law_is_table : Fun K "_law_is_table" "_law_is_table" s_law_is_table a_law_is_table fd_law_is_table
  b_law_is_table : Binds K fd_law_is_table ["table", "modulus"] []
  g_law_is_table : mg "_law_is_table" = some (.ref a_law_is_table)
  a_law_is_add : Addr
  fd_law_is_add : FuncData
  F_law_is_add : Fun K "_law_is_add" "_law_is_add" s_law_is_add a_law_is_add fd_law_is_add
  b_law_is_add : Binds K fd_law_is_add ["step", "modulus", "cells", "inputs"] []
  g_law_is_add : mg "_law_is_add" = some (.ref a_law_is_add)
  a_law_is_step : Addr
  fd_law_is_step : FuncData
  F_law_is_step : Fun K "_law_is_step" "_law_is_step" s_law_is_step a_law_is_step fd_law_is_step
  b_law_is_step : Binds K fd_law_is_step ["step", "modulus", "cells", "inputs", "prime"] []
  g_law_is_step : mg "_law_is_step" = some (.ref a_law_is_step)
  a_law_is_program : Addr
  fd_law_is_program : FuncData
  F_law_is_program : Fun K "_law_is_program" "_law_is_program" s_law_is_program a_law_is_program fd_law_is_program
  b_law_is_program : Binds K fd_law_is_program ["modulus", "cells", "inputs", "steps"] []
  g_law_is_program : mg "_law_is_program" = some (.ref a_law_is_program)
  a_law_odd : Addr
  fd_law_odd : FuncData
  F_law_odd : Fun K "_law_odd" "_law_odd" s_law_odd a_law_odd fd_law_odd
  b_law_odd : Binds K fd_law_odd ["draws", "model"] []
  g_law_odd : mg "_law_odd" = some (.ref a_law_odd)
  a_law_turned_table : Addr
  fd_law_turned_table : FuncData
  F_law_turned_table : Fun K "_law_turned_table" "_law_turned_table" s_law_turned_table a_law_turned_table fd_law_turned_table
  b_law_turned_table : Binds K fd_law_turned_table ["draws", "model", "table"] []
  g_law_turned_table : mg "_law_turned_table" = some (.ref a_law_turned_table)
  a_law_turned : Addr
  fd_law_turned : FuncData
  F_law_turned : Fun K "_law_turned" "_law_turned" s_law_turned a_law_turned fd_law_turned
  b_law_turned : Binds K fd_law_turned ["draws", "model", "step"] []
  g_law_turned : mg "_law_turned" = some (.ref a_law_turned)
  a_law_spoil : Addr
  fd_law_spoil : FuncData
  F_law_spoil : Fun K "_law_spoil" "_law_spoil" s_law_spoil a_law_spoil fd_law_spoil
  b_law_spoil : Binds K fd_law_spoil ["draws", "model"] []
  g_law_spoil : mg "_law_spoil" = some (.ref a_law_spoil)
  a_law_kept : Addr
  fd_law_kept : FuncData
  F_law_kept : Fun K "_law_kept" "_law_kept" s_law_kept a_law_kept fd_law_kept
  b_law_kept : Binds K fd_law_kept ["program", "model", "steps"] []
  g_law_kept : mg "_law_kept" = some (.ref a_law_kept)
  a_law_asked : Addr
  fd_law_asked : FuncData
  F_law_asked : Fun K "_law_asked" "_law_asked" s_law_asked a_law_asked fd_law_asked
  b_law_asked : Binds K fd_law_asked ["model"] []
  g_law_asked : mg "_law_asked" = some (.ref a_law_asked)
  a_law : Addr
  fd_law : FuncData
  F_law : Fun K "law" "law" s_law a_law fd_law
  b_law : Binds K fd_law ["script"] []
  g_law : mg "law" = some (.ref a_law)
  a_Program___init : Addr
  fd_Program___init : FuncData
  F_Program___init : Fun K "__init__" "Program.__init__" s_Program___init a_Program___init fd_Program___init
  b_Program___init : Binds K fd_Program___init ["self", "modulus", "cells", "inputs", "steps"] []
  a_Program___len : Addr
  fd_Program___len : FuncData
  F_Program___len : Fun K "__len__" "Program.__len__" s_Program___len a_Program___len fd_Program___len
  b_Program___len : Binds K fd_Program___len ["self"] []
  C_Program : Addr
  cl_Program : Cls K C_Program
  gc_Program : mg "Program" = some (.ref C_Program)
  na_Program_modulus : NoAttr K C_Program "modulus"
  na_Program_cells : NoAttr K C_Program "cells"
  na_Program_inputs : NoAttr K C_Program "inputs"
  na_Program_steps : NoAttr K C_Program "steps"
  ic_Program : C8.InsC K C_Program
  sf_Program : PySem.W.selfFirst K C_Program = true
  mk_Program : Mk K C_Program a_Program___init
  me_Program___len : Meth K C_Program "__len__" a_Program___len
  E_BrimfulError : Addr
  gE_BrimfulError : mg "BrimfulError" = some (.ref E_BrimfulError)
  xE_BrimfulError : PySem.W.excIn K E_BrimfulError [.type "ValueError", .type "Exception", .type "BaseException", .type "object"] "ValueError.__new__" = true
  kE_BrimfulError : PySem.W.keepIn K (.ref E_BrimfulError) = true
  bE_BrimfulError : PySem.W.subIn K (.ref E_BrimfulError) (.type "BaseException") = some true
  tE_BrimfulError : PySem.W.typeIn K (.ref E_BrimfulError) = some (.type "type")
  dE_BrimfulError : PySem.W.hasDictIn K E_BrimfulError = true
  cE_BrimfulError : L2.ExcC K E_BrimfulError
  E_BadStep : Addr
  gE_BadStep : mg "BadStep" = some (.ref E_BadStep)
  xE_BadStep : PySem.W.excIn K E_BadStep [.type "ValueError", .type "Exception", .type "BaseException", .type "object"] "ValueError.__new__" = true
  kE_BadStep : PySem.W.keepIn K (.ref E_BadStep) = true
  bE_BadStep : PySem.W.subIn K (.ref E_BadStep) (.type "BaseException") = some true
  tE_BadStep : PySem.W.typeIn K (.ref E_BadStep) = some (.type "type")
  dE_BadStep : PySem.W.hasDictIn K E_BadStep = true
  cE_BadStep : L2.ExcC K E_BadStep
  E_BadMemory : Addr
  gE_BadMemory : mg "BadMemory" = some (.ref E_BadMemory)
  xE_BadMemory : PySem.W.excIn K E_BadMemory [.type "ValueError", .type "Exception", .type "BaseException", .type "object"] "ValueError.__new__" = true
  kE_BadMemory : PySem.W.keepIn K (.ref E_BadMemory) = true
  bE_BadMemory : PySem.W.subIn K (.ref E_BadMemory) (.type "BaseException") = some true
  tE_BadMemory : PySem.W.typeIn K (.ref E_BadMemory) = some (.type "type")
  dE_BadMemory : PySem.W.hasDictIn K E_BadMemory = true
  cE_BadMemory : L2.ExcC K E_BadMemory
  vE_BrimfulError : PySem.W.subIn K (.ref E_BrimfulError) (.type "ValueError") = some true
  vE_BadStep : PySem.W.subIn K (.ref E_BadStep) (.type "ValueError") = some true
  vE_BadMemory : PySem.W.subIn K (.ref E_BadMemory) (.type "ValueError") = some true
  sE_BrimfulError_BrimfulError : PySem.W.subIn K (.ref E_BrimfulError) (.ref E_BrimfulError) = some true
  sE_BrimfulError_BadStep : PySem.W.subIn K (.ref E_BrimfulError) (.ref E_BadStep) = some false
  sE_BrimfulError_BadMemory : PySem.W.subIn K (.ref E_BrimfulError) (.ref E_BadMemory) = some false
  sE_BadStep_BrimfulError : PySem.W.subIn K (.ref E_BadStep) (.ref E_BrimfulError) = some true
  sE_BadStep_BadStep : PySem.W.subIn K (.ref E_BadStep) (.ref E_BadStep) = some true
  sE_BadStep_BadMemory : PySem.W.subIn K (.ref E_BadStep) (.ref E_BadMemory) = some false
  sE_BadMemory_BrimfulError : PySem.W.subIn K (.ref E_BadMemory) (.ref E_BrimfulError) = some true
  sE_BadMemory_BadStep : PySem.W.subIn K (.ref E_BadMemory) (.ref E_BadStep) = some false
  sE_BadMemory_BadMemory : PySem.W.subIn K (.ref E_BadMemory) (.ref E_BadMemory) = some true
  m_ValueError : mg "ValueError" = none
  m_all : mg "all" = none
  m_any : mg "any" = none
  m_bool : mg "bool" = none
  m_enumerate : mg "enumerate" = none
  m_int : mg "int" = none
  m_isinstance : mg "isinstance" = none
  m_len : mg "len" = none
  m_list : mg "list" = none
  m_max : mg "max" = none
  m_min : mg "min" = none
  m_range : mg "range" = none
  m_set : mg "set" = none
  m_str : mg "str" = none
  m_tuple : mg "tuple" = none
  m_gcd : mg "gcd" = some (.builtin "math.gcd")
  m_isqrt : mg "isqrt" = some (.builtin "math.isqrt")
  t_GREATEST_MODULUS : Tok
  c_GREATEST_MODULUS : mg "GREATEST_MODULUS" = some (.int 1000000000 t_GREATEST_MODULUS)
  t_MOST_CELLS : Tok
  c_MOST_CELLS : mg "MOST_CELLS" = some (.int 60 t_MOST_CELLS)
  t_MOST_FACTORS : Tok
  c_MOST_FACTORS : mg "MOST_FACTORS" = some (.int 3 t_MOST_FACTORS)
  t_MOST_INPUTS : Tok
  c_MOST_INPUTS : mg "MOST_INPUTS" = some (.int 60 t_MOST_INPUTS)
  t_MOST_STEPS : Tok
  c_MOST_STEPS : mg "MOST_STEPS" = some (.int 20000 t_MOST_STEPS)
end Br
namespace Br
open PySem PySem.Spec PyProof.Rows L2
local macro_rules | `(tactic| walk_at "x1") => `(tactic| (with_reducible first
  | refine Br.x_seq ?_ | refine Br.x_set ?_ | refine Br.x_asg ?_ | refine Br.x_next ?_ | refine Br.x_ret ?_ | refine Br.x_retN ?_ | refine Br.x_drop ?_ | refine Br.x_if ?_ | refine Br.x_brk ?_ | refine Br.x_cont ?_
  | refine Br.x_c ?_ | refine Br.x_op ?_ | refine Br.x_un ?_ | refine Br.x_I0 ?_ | refine Br.x_U ?_ | refine Br.x_EqI ?_ | refine Br.x_NeI ?_ | refine Br.x_EqB ?_ | refine Br.x_iN ?_ | refine Br.x_int1 ?_ | refine Br.x_min2 ?_ | refine Br.x_max2 ?_ | refine Br.x_nN ?_ | refine Br.x_ifE ?_
  | refine Br.x_test (b := ()) ?_ | refine Br.x_tB ?_ | refine Br.x_bl ?_ | refine Br.x_and ?_ | refine Br.x_or ?_ | refine Br.x_not ?_ | refine Br.x_andV ?_ | refine Br.x_orV ?_ | refine Br.x_notV ?_ | refine Br.x_blP ?_
  | refine Br.x_nil ?_ | refine Br.x_cons ?_ | refine Br.x_call ?_ | refine Br.x_CB ?_ | refine Br.x_BM ?_ | refine Br.x_tup ?_ | refine Br.x_lst ?_ | refine Br.x_chain ?_ | refine Br.x_par ?_ | refine Br.x_gSub ?_ | refine Br.x_gName ?_ | refine Br.x_fld ?_ | refine Br.x_fldS ?_ | refine Br.x_match ?_ | refine Br.x_else ?_ | refine Br.x_noCase ?_))
local macro_rules | `(tactic| walk_at "xv") => `(tactic| ((with_reducible refine' Br.x_var ?hvar ?_); (case hvar => rfl)))
local macro_rules | `(tactic| walk_at "xd") => `(tactic| (dsimp only [List.set_cons_zero, List.set_cons_succ, List.cons_append, List.nil_append, List.append_nil]))
local macro_rules | `(tactic| walk_at "xi") => `(tactic| ((with_reducible refine Br.x_I ?hside ?_); (case hside => first | exact Br.mul_r (by decide) (by decide) | exact Br.mul_l (by decide) (by decide) | exact Br.mul_l (by omega) (by omega) | exact Br.mul_r (by omega) (by omega) | (show (0 : Int) < _; first | decide | omega) | exact ⟨by decide, by decide⟩ | exact ⟨by omega, by omega⟩ | exact ⟨by decide, by decide, by decide⟩)))
local macro_rules | `(tactic| walk_at "x") => `(tactic| (repeat (first | walk_at "x1" | walk_at "xv" | walk_at "xi" | walk_at "xd")))
local macro_rules | `(tactic| walk_at "start") => `(tactic| (simp only [L2.start, List.map_cons, List.map_nil, List.length_cons, List.length_nil, Nat.reduceAdd, Nat.reduceSub, List.replicate, List.cons_append, List.nil_append, List.append_nil]))
local macro_rules | `(tactic| walk_at "isi") => `(tactic| first
  | refine Br.x_isi (b := true) (.base (.int _)) (by decide +kernel) ?_ | refine Br.x_isi (b := false) (.base (.int _)) (by decide +kernel) ?_
  | refine Br.x_isi (b := true) (.base (.bl _)) (by decide +kernel) ?_ | refine Br.x_isi (b := false) (.base (.bl _)) (by decide +kernel) ?_
  | refine Br.x_isi (b := false) (.base .non) (by decide +kernel) ?_
  | refine Br.x_isi (b := true) (.base (.str _)) (by decide +kernel) ?_ | refine Br.x_isi (b := false) (.base (.str _)) (by decide +kernel) ?_
  | refine Br.x_isi (b := true) (.base (.tup (by assumption))) (by decide +kernel) ?_ | refine Br.x_isi (b := false) (.base (.tup (by assumption))) (by decide +kernel) ?_
  | refine Br.x_isi (b := true) (.base (.lst (by assumption))) (by decide +kernel) ?_ | refine Br.x_isi (b := false) (.base (.lst (by assumption))) (by decide +kernel) ?_)
local macro_rules | `(tactic| walk_at "f") => `(tactic| (refine L2.iteF ?_; walk_at "x"))
local macro_rules | `(tactic| walk_at "t") => `(tactic| (refine L2.iteT ?_; walk_at "x"))
local macro_rules | `(tactic| walk_at "is") => `(tactic| (walk_at "isi"; walk_at "x"))
local macro_rules | `(tactic| walk_at "xb") => `(tactic| (simp only [Br.bindS, List.set_cons_zero, List.set_cons_succ]; walk_at "x"))

section
variable {P : Program} {w : World} {K : PySem.W.Frag} {mg : Str → Option Value} {base : Heap}

/-! ### the draws -/
/-- the draws at d: a list of a list of numbers (at n) and a place -/
def Dr (H : Hp) (d n : Addr) : Prop := ∃ (ns : List Int) (k : Int), H d = some (.lst [.ref n, .int k]) ∧ H n = some (.lst (ns.map V.int)) ∧ Rg 0 1000000 ns ∧ 0 ≤ k ∧ ns.length ≤ 3780
theorem Dr.ne {H : Hp} {d n : Addr} (h : Dr H d n) : H d ≠ none := by
  obtain ⟨_, _, h, _⟩ := h
  rw [h]
  exact fun z => nomatch z
theorem Dr.new {H : Hp} {d n p : Addr} (h : Dr H d n) (hp : H p = none) : p ≠ d := fun e => h.ne (e ▸ hp)
theorem Dr.newN {H : Hp} {d n p : Addr} (h : Dr H d n) (hp : H p = none) : p ≠ n := fun e => by
  obtain ⟨_, _, _, h2, _⟩ := h
  rw [← e, hp] at h2
  cases h2
theorem Dr.dn {H : Hp} {d n : Addr} (h : Dr H d n) : d ≠ n := by
  obtain ⟨ns, k, h1, h2, _⟩ := h
  exact ne_of h1 h2 (by
    intro e
    have e1 : [V.ref n, V.int k] = ns.map V.int := HO.lst.inj e
    cases ns with
    | nil => cases e1
    | cons x r => cases (List.cons.inj e1).1)
/-- changes elsewhere -/
theorem Dr.upd {H : Hp} {d n p : Addr} {o : HO} (h : Dr H d n) (hd : p ≠ d) (hn : p ≠ n) : Dr (upd H p o) d n := by
  obtain ⟨ns, k, h1, h2, h3⟩ := h
  exact ⟨ns, k, by rw [upd_ne hd.symm]; exact h1, by rw [upd_ne hn.symm]; exact h2, h3⟩
theorem Dr.upd0 {H : Hp} {d n p : Addr} {o : HO} (h : Dr H d n) (hp : H p = none) : Dr (L2.upd H p o) d n := h.upd (h.new hp) (h.newN hp)
theorem Dr.same {H H' : Hp} {d n : Addr} (h : Dr H d n) (s : Same H H') : Dr H' d n := by
  obtain ⟨ns, k, h1, h2, h3⟩ := h
  exact ⟨ns, k, s _ _ h1, s _ _ h2, h3⟩
/-- what is fresh behind was fresh ahead -/
theorem Keep.free {H H' : Hp} {d n p : Addr} (s : Keep d H H') (h : Dr H' d n) (hp : H' p = none) : H p = none := by
  cases e : H p with
  | none => rfl
  | some o =>
    by_cases hd : p = d
    · rw [hd] at hp
      exact absurd hp h.ne
    · rw [s p o e hd] at hp
      cases hp
theorem Dr.mk {H : Hp} {d n : Addr} {ns : List Int} (hn : H n = some (.lst (ns.map V.int))) (hr : Rg 0 1000000 ns) (hl : ns.length ≤ 3780) (hd : H d = none) : Dr (L2.upd H d (.lst [.ref n, .int 0])) d n :=
  ⟨ns, 0, upd_same, by rw [upd_ne (ne_of_none hn hd)]; exact hn, hr, Int.le_refl _, hl⟩
/-- what a def that draws gives: a value of which P, the draws moved on -/
abbrev RetD (d n : Addr) (P : V → Prop) (H : Hp) (Q : VK) : Prop := ∀ v H', P v → Dr H' d n → Keep d H H' → Q v H'
abbrev RetG (d n : Addr) (P : V → Hp → Prop) (H : Hp) (Q : VK) : Prop := ∀ v H', P v H' → Dr H' d n → Keep d H H' → Q v H'
abbrev IsI (lo hi : Int) : V → Prop := fun v => ∃ z : Int, v = .int z ∧ lo ≤ z ∧ z < hi

def sp_law_mixed (K : PySem.W.Frag) : Sp := fun vs H Q _ => ∃ i k : Int, vs = [.int i, .int k] ∧ ∀ r : Int, 0 ≤ r → r < 2147483647 → Q (.int r) H
theorem ok_law_mixed (T : Txt K mg) : FnOk P w K mg base CX0 1 T.a_law_mixed T.fd_law_mixed ["number", "k"] (sp_law_mixed K) := by
  refine T.F_law_mixed.ok sc_law_mixed (fun vs H Q E h => ?_) (fun cdv A outer s H vs Q E hr h => ?_)
  · obtain ⟨i, k, rfl, _⟩ := h
    rfl
  · obtain ⟨i, k, rfl, q⟩ := h
    refine ⟨_, (pss_cons (ps_set (i := 2) sc_law_mixed.nd rfl (.inl rfl) (pe_op op_mod (pe_op op_add (pe_op op_add (pe_op op_mul (pv 0) pe_int) (pe_op op_mul (pv 1) pe_int)) pe_int) pe_int))
      (pss_one (ps_ret (pe_op op_mod (pe_op op_add (pe_op op_mul (pv 2) (pe_op op_add (pe_op op_fdiv (pv 2) pe_int) pe_int)) (pv 1)) pe_int)))), ?_⟩
    walk_at "start"
    walk_at "x"
    exact q _ (Int.emod_nonneg _ (by decide)) (Int.emod_lt_of_pos _ (by decide))


def sp_law_numbers (K : PySem.W.Frag) : Sp := fun vs H Q _ => ∃ (a : Addr) (ns : List Int), vs = [.ref a] ∧ SqL K H a (ns.map V.int) ∧ ns.length ≤ 63 ∧
  ∀ (p : Addr) (ms : List Int) (H' : Hp), H p = none → Same H H' → H' p = some (.lst (ms.map V.int)) → Rg 0 1000000 ms → ms.length ≤ 3780 → Q (.ref p) H'
/-- the numbers so far -/
def NumI (H : Hp) (p : Addr) (n : Nat) (H' : Hp) : Prop := ∃ ms : List Int, Same H H' ∧ H' p = some (.lst (ms.map V.int)) ∧ Rg 0 1000000 ms ∧ ms.length ≤ n
theorem NumI.app {H H' : Hp} {p : Addr} {n : Nat} (h : NumI H p n H') (hp : H p = none) (hn : n ≤ 100000) {R : VK} {z : Int} (h1 : 0 ≤ z) (h2 : z < 1000000) (q : ∀ H2, NumI H p (n + 1) H2 → R .non H2) : rAppend (.ref p) [.int z] H' R := by
  obtain ⟨ms, s, e, r, l⟩ := h
  refine x_app e (by rw [List.length_map]; omega) (q _ ⟨ms ++ [z], sput s hp, ?_, r.snoc h1 h2, ?_⟩)
  · rw [upd_same, List.map_append]; rfl
  · rw [List.length_append]; exact Nat.add_le_add_right l 1
theorem NumI.ty {K : PySem.W.Frag} {H H' : Hp} {p : Addr} {n : Nat} (h : NumI H p n H') {R : Prop} (q : R) : tyV K "list" (.ref p) H' ∧ R := by
  obtain ⟨ms, s, e, r, l⟩ := h
  exact x_tyL e q
theorem NumI.mono {H H' : Hp} {p : Addr} {n m : Nat} (h : NumI H p n H') (l : n ≤ m) : NumI H p m H' := by
  obtain ⟨ms, s, e, r, k⟩ := h
  exact ⟨ms, s, e, r, Nat.le_trans k l⟩
theorem ok_law_numbers (T : Txt K mg) : FnOk P w K mg base CX0 2 T.a_law_numbers T.fd_law_numbers ["script"] (sp_law_numbers K) := by
  refine T.F_law_numbers.ok sc_law_numbers (fun vs H Q E h => ?_) (fun cdv A outer s H vs Q E hr h => ?_)
  · obtain ⟨a, ns, rfl, _⟩ := h
    rfl
  · obtain ⟨a, ns, rfl, hS, hl, q⟩ := h
    refine ⟨_, (pss_cons (ps_set (i := 1) sc_law_numbers.nd rfl (.inl rfl) (pe_lst pa_nil))
      (pss_cons (ps_for PassesOwn.never rfl (pi_list (pv 0)) (pg_name (i := 2) sc_law_numbers.nd rfl (Or.inl rfl))
      (pss_one (ps_if (pt_cmpR op_ge (pv 2) (pe_op op_pow pe_int pe_int) (nomark _))
      (pss_cons (ps_set (i := 3) sc_law_numbers.nd rfl (.inl rfl) (pv 2))
      (pss_one (ps_for PassesOwn.never rfl (pi_range1 (by rfl) T.m_range (pa_cons pe_int pa_nil)) (pg_name (i := 4) sc_law_numbers.nd rfl (Or.inl rfl))
      (pss_one (ps_if (pt_cmpR op_gt (pv 3) pe_int (nomark _))
      (pss_cons (ps_expr (pe_bm PySem.F.plainAttrs_list PySem.F.slot_list_append PySem.F.type_list_append mt_append (pv 1) (pa_cons (pe_op op_mod (pv 3) pe_int) pa_nil)))
      (pss_one (ps_set (i := 3) sc_law_numbers.nd rfl (.inl rfl) (pe_op op_fdiv (pv 3) pe_int))))
      pss_nil)))))
      (pss_cons (ps_expr (pe_bm PySem.F.plainAttrs_list PySem.F.slot_list_append PySem.F.type_list_append mt_append (pv 1) (pa_cons (pe_op op_mod (pv 2) pe_int) pa_nil)))
      (pss_one (ps_for PassesOwn.never rfl (pi_range1 (by rfl) T.m_range (pa_cons pe_int pa_nil)) (pg_name (i := 4) sc_law_numbers.nd rfl (Or.inl rfl))
      (pss_one (ps_expr (pe_bm PySem.F.plainAttrs_list PySem.F.slot_list_append PySem.F.type_list_append mt_append (pv 1) (pa_cons (pe_op op_mod (pe_call (ok_law_mixed T) hr (by rfl) T.g_law_mixed T.F_law_mixed.kp T.b_law_mixed .nil pass0 (pa_cons (pe_call (ok_law_mixed T) hr (by rfl) T.g_law_mixed T.F_law_mixed.kp T.b_law_mixed .nil pass0 (pa_cons (pe_op op_mod (pv 2) pe_int) (pa_cons (pv 4) pa_nil))) (pa_cons (pe_op op_add (pv 4) pe_int) pa_nil))) pe_int) pa_nil))))))))))
      (pss_one (ps_ret (pv 1))))), ?_⟩
    walk_at "start"
    walk_at "x"
    refine ⟨Nat.zero_le _, fun p hp => ?_⟩
    walk_at "x"
    refine x_forL (p := a) (ns.map V.int) (fun i σ' H' => ∃ v2 v3 v4, σ' = [some (.ref a), some (.ref p), v2, v3, v4] ∧ NumI H p (60 * i) H') (fun R r => ⟨_, rfl, r⟩) ((same_upd hp).seq hS) ?_ ?_ ?_ ?_
    · exact ⟨none, none, none, rfl, [], same_upd hp, upd_same, .nil, Nat.le_refl _⟩
    · rintro i σ' H' hi ⟨v2, v3, v4, rfl, ms, s, _⟩
      exact s.seq hS
    · rintro i x σ' H' hx ⟨v2, v3, v4, rfl, hN⟩
      obtain ⟨z, hz, rfl⟩ := map_get hx
      have hi : i < 63 := by
        have := (List.getElem?_eq_some_iff.mp hz).1
        omega
      walk_at "x"
      refine x_ite (fun hc => ?_) (fun hc => ?_)
      · walk_at "x"
        refine x_forR1 60 (fun j σ' H' => ∃ r v4, σ' = [some (.ref a), some (.ref p), some (.int z), some (.int r), v4] ∧ NumI H p (60 * i + j) H') (fun R r => r) (by decide) (by decide) ⟨z, v4, rfl, hN⟩ ?_ ?_
        · rintro j σ' H2 hj ⟨r, v4, rfl, hN⟩
          walk_at "x"
          refine x_ite (fun hc => ?_) (fun hc => ?_)
          · walk_at "x"
            refine hN.ty ?_
            walk_at "x"
            refine hN.app hp (by omega) (Int.emod_nonneg _ (by decide)) (Int.emod_lt_of_pos _ (by decide)) fun H3 hN3 => ?_
            walk_at "x"
            exact ⟨_, _, rfl, hN3⟩
          · walk_at "x"
            exact ⟨r, _, rfl, hN.mono (by omega)⟩
        · rintro σ' H2 ⟨r, v4, rfl, hN⟩
          exact ⟨_, _, _, rfl, hN.mono (by show 60 * i + (60 : Int).toNat ≤ 60 * (i + 1); omega)⟩
      · walk_at "x"
        refine hN.ty ?_
        walk_at "x"
        refine hN.app hp (by omega) (Int.emod_nonneg _ (by decide)) (Int.emod_lt_of_pos _ (by decide)) fun H3 hN3 => ?_
        walk_at "x"
        refine x_forR1 5 (fun j σ' H' => ∃ v4, σ' = [some (.ref a), some (.ref p), some (.int z), v3, v4] ∧ NumI H p (60 * i + 1 + j) H') (fun R r => r) (by decide) (by decide) ⟨v4, rfl, hN3⟩ ?_ ?_
        · rintro j σ' H2 hj ⟨v4, rfl, hN⟩
          walk_at "x"
          refine hN.ty ?_
          walk_at "x"
          refine ⟨_, _, rfl, fun r h0 h1 => ?_⟩
          walk_at "x"
          refine ⟨_, _, rfl, fun r h0 h1 => ?_⟩
          walk_at "x"
          refine hN.app hp (by omega) (Int.emod_nonneg _ (by decide)) (Int.emod_lt_of_pos _ (by decide)) fun H3 hN3 => ?_
          walk_at "x"
          exact ⟨_, rfl, hN3⟩
        · rintro σ' H2 ⟨v4, rfl, hN⟩
          exact ⟨_, _, _, rfl, hN.mono (by show 60 * i + 1 + (5 : Int).toNat ≤ 60 * (i + 1); omega)⟩
    · rintro σ' H' ⟨v2, v3, v4, rfl, ms, s, e, r, l⟩
      walk_at "x"
      exact q p ms H' hp s e r (by rw [List.length_map] at l; omega)


def sp_law_draw (K : PySem.W.Frag) : Sp := fun vs H Q _ => ∃ (d n : Addr), vs = [.ref d] ∧ Dr H d n ∧ RetD d n (IsI 0 1000000) H Q
theorem ok_law_draw (T : Txt K mg) : FnOk P w K mg base CX0 2 T.a_law_draw T.fd_law_draw ["draws"] (sp_law_draw K) := by
  refine T.F_law_draw.ok sc_law_draw (fun vs H Q E h => ?_) (fun cdv A outer s H vs Q E hr h => ?_)
  · obtain ⟨d, n, rfl, _⟩ := h
    rfl
  · obtain ⟨d, n, rfl, hD, q⟩ := h
    have hn := hD.dn
    obtain ⟨ns, k, h1, h2, h3, h4, h5⟩ := hD
    have hD : Dr (upd H d (.lst [.ref n, .int (k + 1)])) d n := ⟨ns, k + 1, upd_same, by rw [upd_ne hn.symm]; exact h2, h3, by omega, h5⟩
    refine ⟨_, (pss_cons (ps_set (i := 1) sc_law_draw.nd rfl (.inl rfl) (pe_ix (r := rIxL K) ix_list (pv 0) pe_int (fun _ _ => rfl)))
      (pss_cons (ps_asg (pe_op op_add (pv 1) pe_int) (pg_sub (pv 0) pe_int set_list))
      (pss_cons (ps_if (pt_cmpR op_lt (pv 1) (pe_callB (id := "len") (r := rLen K) cr_len (by rfl) T.m_len PySem.boot_len (pa_cons (pe_ix (r := rIxL K) ix_list (pv 0) pe_int (fun _ _ => rfl)) pa_nil)) (nomark _))
      (pss_one (ps_ret (pe_ix (r := rIxL K) ix_list (pe_ix (r := rIxL K) ix_list (pv 0) pe_int (fun _ _ => rfl)) (pv 1) (fun _ _ => rfl))))
      pss_nil)
      (pss_cons (ps_set (i := 2) sc_law_draw.nd rfl (.inl rfl) (pe_op op_add pe_int (pv 1)))
      (pss_cons (ps_if (pt_cmpR op_gt (pe_callB (id := "len") (r := rLen K) cr_len (by rfl) T.m_len PySem.boot_len (pa_cons (pe_ix (r := rIxL K) ix_list (pv 0) pe_int (fun _ _ => rfl)) pa_nil)) pe_int (nomark _))
      (pss_one (ps_set (i := 2) sc_law_draw.nd rfl (.inl rfl) (pe_op op_add (pv 2) (pe_op op_mul pe_int (pe_ix (r := rIxL K) ix_list (pe_ix (r := rIxL K) ix_list (pv 0) pe_int (fun _ _ => rfl)) pe_int (fun _ _ => rfl))))))
      pss_nil)
      (pss_one (ps_ret (pe_op op_mod (pe_call (ok_law_mixed T) hr (by rfl) T.g_law_mixed T.F_law_mixed.kp T.b_law_mixed .nil pass0 (pa_cons (pe_call (ok_law_mixed T) hr (by rfl) T.g_law_mixed T.F_law_mixed.kp T.b_law_mixed .nil pass0 (pa_cons (pv 2) (pa_cons (pv 1) pa_nil))) (pa_cons pe_int pa_nil))) pe_int)))))))), ?_⟩
    walk_at "start"
    walk_at "x"
    refine x_ixL (sq_of h1) (show _ = some (V.int k) from rfl) ?_
    walk_at "x"
    refine x_subL (k := 1) h1 rfl ?_
    walk_at "x"
    have hd : (upd H d (HO.lst [.ref n, .int (k + 1)])) d = some (.lst [.ref n, .int (k + 1)]) := upd_same
    have hnn : (upd H d (HO.lst [.ref n, .int (k + 1)])) n = some (.lst (ns.map V.int)) := by rw [upd_ne hn.symm]; exact h2
    refine x_ixL (sq_of hd) (show _ = some (V.ref n) from rfl) ?_
    walk_at "x"
    refine x_len (sq_of hnn) ?_
    walk_at "x"
    rw [List.length_map]
    refine x_ite (fun hc => ?_) (fun hc => ?_)
    · walk_at "x"
      refine x_ixL (sq_of hd) (show _ = some (V.ref n) from rfl) ?_
      walk_at "x"
      obtain ⟨j, rfl⟩ : ∃ j : Nat, k = (j : Int) := ⟨k.toNat, by omega⟩
      have hj : j < ns.length := by omega
      refine x_ixL (v := .int ns[j]) (sq_of hnn) (atI_nat (by rw [List.getElem?_map, List.getElem?_eq_getElem hj]; rfl)) ?_
      exact q _ _ ⟨_, rfl, h3 _ (List.getElem_mem hj)⟩ hD keep_upd
    · walk_at "x"
      refine x_ixL (sq_of hd) (show _ = some (V.ref n) from rfl) ?_
      walk_at "x"
      refine x_len (sq_of hnn) ?_
      walk_at "x"
      rw [List.length_map]
      refine x_ite (fun hc => ?_) (fun hc => ?_)
      · walk_at "x"
        refine x_ixL (sq_of hd) (show _ = some (V.ref n) from rfl) ?_
        walk_at "x"
        have hj : 0 < ns.length := by omega
        refine x_ixL (v := .int ns[0]) (sq_of hnn) (atI_nat (j := 0) (by rw [List.getElem?_map, List.getElem?_eq_getElem hj]; rfl)) ?_
        walk_at "x"
        refine ⟨_, _, rfl, fun r h0 h1 => ?_⟩
        walk_at "x"
        refine ⟨_, _, rfl, fun r h0 h1 => ?_⟩
        walk_at "x"
        exact q _ _ ⟨_, rfl, Int.emod_nonneg _ (by decide), Int.emod_lt_of_pos _ (by decide)⟩ hD keep_upd
      · walk_at "x"
        refine ⟨_, _, rfl, fun r h0 h1 => ?_⟩
        walk_at "x"
        refine ⟨_, _, rfl, fun r h0 h1 => ?_⟩
        walk_at "x"
        exact q _ _ ⟨_, rfl, Int.emod_nonneg _ (by decide), Int.emod_lt_of_pos _ (by decide)⟩ hD keep_upd


def sp_law_large (K : PySem.W.Frag) : Sp := fun vs H Q _ => ∃ (d n : Addr) (b : Int), vs = [.ref d, .int b] ∧ 0 < b ∧ Dr H d n ∧ RetD d n (IsI 0 b) H Q
theorem ok_law_large (T : Txt K mg) : FnOk P w K mg base CX0 3 T.a_law_large T.fd_law_large ["draws", "bound"] (sp_law_large K) := by
  refine T.F_law_large.ok sc_law_large (fun vs H Q E h => ?_) (fun cdv A outer s H vs Q E hr h => ?_)
  · obtain ⟨d, n, b, rfl, _⟩ := h
    rfl
  · obtain ⟨d, n, b, rfl, hb, hD, q⟩ := h
    refine ⟨_, (pss_cons (ps_set (i := 2) sc_law_large.nd rfl (.inl rfl) (pe_op op_add (pe_call (ok_law_draw T) hr (by rfl) T.g_law_draw T.F_law_draw.kp T.b_law_draw .nil pass0 (pa_cons (pv 0) pa_nil)) (pe_op op_mul (pe_op op_pow pe_int pe_int) (pe_op op_mod (pe_call (ok_law_draw T) hr (by rfl) T.g_law_draw T.F_law_draw.kp T.b_law_draw .nil pass0 (pa_cons (pv 0) pa_nil)) pe_int))))
      (pss_one (ps_ret (pe_op op_mod (pv 2) (pv 1))))), ?_⟩
    walk_at "start"
    walk_at "x"
    refine ⟨d, n, rfl, hD, ?_⟩
    rintro _ H1 ⟨z, rfl, hz0, hz1⟩ hD1 hk1
    walk_at "x"
    refine ⟨d, n, rfl, hD1, ?_⟩
    rintro _ H2 ⟨y, rfl, hy0, hy1⟩ hD2 hk2
    walk_at "x"
    exact q _ _ ⟨_, rfl, Int.emod_nonneg _ (by omega), Int.emod_lt_of_pos _ hb⟩ hD2 (hk1.trans hk2)


def sp_law_modulus (K : PySem.W.Frag) : Sp := fun vs H Q _ => ∃ (d n : Addr), vs = [.ref d] ∧ Dr H d n ∧ RetD d n (IsI 2 1000000001) H Q
theorem ok_law_modulus (T : Txt K mg) : FnOk P w K mg base CX0 4 T.a_law_modulus T.fd_law_modulus ["draws"] (sp_law_modulus K) := by
  refine T.F_law_modulus.ok sc_law_modulus (fun vs H Q E h => ?_) (fun cdv A outer s H vs Q E hr h => ?_)
  · obtain ⟨d, n, rfl, _⟩ := h
    rfl
  · obtain ⟨d, n, rfl, hD, q⟩ := h
    refine ⟨_, (pss_cons (ps_set (i := 1) sc_law_modulus.nd rfl (.inl rfl) (pe_op op_mod (pe_call (ok_law_draw T) (hr.mono (by decide)) (by rfl) T.g_law_draw T.F_law_draw.kp T.b_law_draw .nil pass0 (pa_cons (pv 0) pa_nil)) pe_int))
      (pss_cons (ps_if (pt_cmpR op_lt (pv 1) pe_int (nomark _))
      (pss_one (ps_ret (pe_ix (r := rIxL K) ix_list (pe_lst (pa_cons pe_int (pa_cons pe_int (pa_cons (pe_op op_pow pe_int pe_int) (pa_cons pe_int pa_nil))))) (pv 1) (fun _ _ => rfl))))
      pss_nil)
      (pss_cons (ps_if (pt_cmpR op_lt (pv 1) pe_int (nomark _))
      (pss_one (ps_ret (pe_op op_add pe_int (pe_op op_mod (pe_call (ok_law_draw T) (hr.mono (by decide)) (by rfl) T.g_law_draw T.F_law_draw.kp T.b_law_draw .nil pass0 (pa_cons (pv 0) pa_nil)) pe_int))))
      pss_nil)
      (pss_one (ps_ret (pe_op op_add pe_int (pe_call (ok_law_large T) hr (by rfl) T.g_law_large T.F_law_large.kp T.b_law_large .nil pass0 (pa_cons (pv 0) (pa_cons (pe_op op_sub (pe_op op_pow pe_int pe_int) pe_int) pa_nil))))))))), ?_⟩
    walk_at "start"
    walk_at "x"
    refine ⟨d, n, rfl, hD, ?_⟩
    rintro _ H1 ⟨z, rfl, hz0, hz1⟩ hD1 hk1
    walk_at "x"
    have z0 : 0 ≤ z % 8 := Int.emod_nonneg _ (by decide)
    refine x_ite (fun hc => ?_) (fun hc => ?_)
    · walk_at "x"
      refine ⟨by show 4 ≤ sizeLine; decide, fun p hp => ?_⟩
      walk_at "x"
      obtain ⟨v, hv, hm⟩ := at_lt (xs := [.int 2, .int 3, .int (10 ^ (9 : Int).toNat), .int 999999937]) z0 (show _ < (4 : Int) from hc)
      refine x_ixL (sq_of upd_same) hv ?_
      walk_at "x"
      have hm' : v = .int 2 ∨ v = .int 3 ∨ v = .int 1000000000 ∨ v = .int 999999937 := by simpa using hm
      refine q _ _ ?_ (hD1.upd0 hp) (hk1.trans (Same.keep (same_upd hp)))
      rcases hm' with rfl | rfl | rfl | rfl <;> exact ⟨_, rfl, by decide, by decide⟩
    · walk_at "x"
      refine x_ite (fun hc => ?_) (fun hc => ?_)
      · walk_at "x"
        refine ⟨d, n, rfl, hD1, ?_⟩
        rintro _ H2 ⟨y, rfl, hy0, hy1⟩ hD2 hk2
        walk_at "x"
        have y0 : 0 ≤ y % 60 := Int.emod_nonneg _ (by decide)
        have y1 : y % 60 < 60 := Int.emod_lt_of_pos _ (by decide)
        exact q _ _ ⟨_, rfl, by omega, by omega⟩ hD2 (hk1.trans hk2)
      · walk_at "x"
        refine ⟨d, n, _, rfl, by decide, hD1, ?_⟩
        rintro _ H2 ⟨y, rfl, hy0, hy1⟩ hD2 hk2
        walk_at "x"
        have e : (10 ^ (9 : Int).toNat - 1 : Int) = 999999999 := by decide
        rw [e] at hy1
        exact q _ _ ⟨_, rfl, by omega, by omega⟩ hD2 (hk1.trans hk2)


def sp_law_number (K : PySem.W.Frag) : Sp := fun vs H Q _ => ∃ (d n : Addr) (m : Int), vs = [.ref d, .int m] ∧ 2 ≤ m ∧ Dr H d n ∧ RetD d n (IsI 0 m) H Q
theorem ok_law_number (T : Txt K mg) : FnOk P w K mg base CX0 4 T.a_law_number T.fd_law_number ["draws", "modulus"] (sp_law_number K) := by
  refine T.F_law_number.ok sc_law_number (fun vs H Q E h => ?_) (fun cdv A outer s H vs Q E hr h => ?_)
  · obtain ⟨d, n, m, rfl, _⟩ := h
    rfl
  · obtain ⟨d, n, m, rfl, hm, hD, q⟩ := h
    refine ⟨_, (pss_cons (ps_set (i := 2) sc_law_number.nd rfl (.inl rfl) (pe_op op_mod (pe_call (ok_law_draw T) (hr.mono (by decide)) (by rfl) T.g_law_draw T.F_law_draw.kp T.b_law_draw .nil pass0 (pa_cons (pv 0) pa_nil)) pe_int))
      (pss_cons (ps_if (pt_cmpR op_lt (pv 2) pe_int (nomark _))
      (pss_one (ps_ret (pe_ix (r := rIxL K) ix_list (pe_lst (pa_cons pe_int (pa_cons pe_int (pa_cons (pe_op op_sub (pv 1) pe_int) pa_nil)))) (pv 2) (fun _ _ => rfl))))
      pss_nil)
      (pss_one (ps_ret (pe_call (ok_law_large T) hr (by rfl) T.g_law_large T.F_law_large.kp T.b_law_large .nil pass0 (pa_cons (pv 0) (pa_cons (pv 1) pa_nil))))))), ?_⟩
    walk_at "start"
    walk_at "x"
    refine ⟨d, n, rfl, hD, ?_⟩
    rintro _ H1 ⟨z, rfl, hz0, hz1⟩ hD1 hk1
    walk_at "x"
    have z0 : 0 ≤ z % 6 := Int.emod_nonneg _ (by decide)
    refine x_ite (fun hc => ?_) (fun hc => ?_)
    · walk_at "x"
      refine ⟨by show 3 ≤ sizeLine; decide, fun p hp => ?_⟩
      walk_at "x"
      obtain ⟨v, hv, hm⟩ := at_lt (xs := [.int 0, .int 1, .int (m - 1)]) z0 (show _ < (3 : Int) from hc)
      refine x_ixL (sq_of upd_same) hv ?_
      walk_at "x"
      have hm' : v = .int 0 ∨ v = .int 1 ∨ v = .int (m - 1) := by simpa using hm
      refine q _ _ ?_ (hD1.upd0 hp) (hk1.trans (Same.keep (same_upd hp)))
      rcases hm' with rfl | rfl | rfl <;> exact ⟨_, rfl, by omega, by omega⟩
    · walk_at "x"
      refine ⟨d, n, _, rfl, by omega, hD1, ?_⟩
      rintro _ H2 ⟨y, rfl, hy0, hy1⟩ hD2 hk2
      walk_at "x"
      exact q _ _ ⟨_, rfl, hy0, hy1⟩ hD2 (hk1.trans hk2)


def sp_law_gcd (K : PySem.W.Frag) : Sp := fun vs H Q _ => ∃ a b : Int, vs = [.int a, .int b] ∧ 0 ≤ a ∧ a < 2 ^ 31 ∧ 0 ≤ b ∧ b < 2 ^ 31 ∧ Q (.int (Int.gcd a b : Nat)) H
theorem ok_law_gcd (T : Txt K mg) : FnOk P w K mg base CX0 1 T.a_law_gcd T.fd_law_gcd ["one", "two"] (sp_law_gcd K) := by
  refine T.F_law_gcd.ok sc_law_gcd (fun vs H Q E h => ?_) (fun cdv A outer s H vs Q E hr h => ?_)
  · obtain ⟨a, b, rfl, _⟩ := h
    rfl
  · obtain ⟨a, b, rfl, ha0, ha1, hb0, hb1, q⟩ := h
    refine ⟨_, (pss_cons (ps_for PassesOwn.never rfl (pi_range1 (by rfl) T.m_range (pa_cons pe_int pa_nil)) (pg_name (i := 2) sc_law_gcd.nd rfl (Or.inl rfl))
      (pss_cons (ps_if (pt_cmpR op_eq (pv 1) pe_int (nomark _))
      (pss_one (ps_ret (pv 0)))
      pss_nil)
      (pss_cons (ps_set (i := 3) sc_law_gcd.nd rfl (.inl rfl) (pe_op op_mod (pe_callTy (T := "int") (r := rInt1) cr_int1 (by rfl) T.m_int (by decide +kernel) (pa_cons (pv 0) pa_nil)) (pv 1)))
      (pss_cons (ps_set (i := 0) sc_law_gcd.nd rfl (.inl rfl) (pv 1))
      (pss_one (ps_set (i := 1) sc_law_gcd.nd rfl (.inl rfl) (pv 3)))))))
      (pss_one (ps_ret (pv 0)))), ?_⟩
    walk_at "start"
    walk_at "x"
    refine x_forR1 200 (fun i σ' H' => i ≤ 100 ∧ H' = H ∧ ∃ x y v2 v3, σ' = [some (.int x), some (.int y), v2, v3] ∧ 0 ≤ x ∧ 0 ≤ y ∧ Int.gcd x y = Int.gcd a b ∧ ((i = 0 ∧ x < 2 ^ 31 ∧ y < 2 ^ 31) ∨ (y < x ∧ x * y * 2 ^ i ≤ 2 ^ 70))) (fun R r => r) (by decide) (by decide) ⟨by decide, rfl, a, b, _, _, rfl, ha0, hb0, rfl, .inl ⟨rfl, ha1, hb1⟩⟩ ?_ ?_
    · rintro i σ' H' hi ⟨hi2, rfl, x, y, v2, v3, rfl, hx, hy, hg, hI⟩
      walk_at "x"
      refine x_ite (fun hc => ?_) (fun hc => ?_)
      · walk_at "x"
        rw [hc, Int.gcd_zero_right] at hg
        have e : x = ((Int.gcd a b : Nat) : Int) := by omega
        rw [e]
        exact q
      · have hy1 : 0 < y := by omega
        walk_at "x"
        have r0 := Int.emod_nonneg x (show y ≠ 0 by omega)
        have r1 := Int.emod_lt_of_pos x hy1
        refine ⟨?_, rfl, _, _, _, _, rfl, hy, r0, by rw [gcd_step]; exact hg, .inr ⟨r1, ?_⟩⟩
        · rcases hI with ⟨e, _⟩ | ⟨h1, h2⟩
          · omega
          · by_cases hh : i < 70
            · omega
            · have h3 : (2 : Int) ^ 70 ≤ 2 ^ i := by
                have := Nat.pow_le_pow_right (show 0 < 2 by decide) (show 70 ≤ i by omega)
                exact_mod_cast this
              have h4 : 2 * 1 ≤ x * y := Int.mul_le_mul (by omega) (by omega) (by decide) (by omega)
              have h5 : x * y * 2 ^ 70 ≤ x * y * 2 ^ i := Int.mul_le_mul_of_nonneg_left h3 (by omega)
              omega
        · rcases hI with ⟨e, h1, h2⟩ | ⟨h1, h2⟩
          · subst e
            have h4 : y * (x % y) ≤ 2 ^ 31 * 2 ^ 31 := Int.mul_le_mul (by omega) (by omega) (by omega) (by decide)
            omega
          · have h3 := half_step hy1 h1
            have h4 : y * (x % y) * 2 * 2 ^ i ≤ x * y * 2 ^ i := Int.mul_le_mul_of_nonneg_right h3 (Int.pow_nonneg (by decide))
            have e : y * (x % y) * 2 ^ (i + 1) = y * (x % y) * 2 * 2 ^ i := by
              rw [Int.pow_succ, Int.mul_assoc (y * (x % y)) 2, Int.mul_comm 2 (2 ^ i)]
            omega
    · rintro σ' H' ⟨hi, _⟩
      exact absurd hi (by decide)


/-- a value of any kind that the laws put in -/
inductive Odd (H : Hp) : V → Prop
  | int (i : Int) : Odd H (.int i)
  | bl (b : Bool) : Odd H (.bl b)
  | non : Odd H .non
  | str (x : Str) : Odd H (.str x)
  | tup (a : Addr) (xs : List V) (h : H a = some (.tup xs)) : Odd H (.ref a)
  | lst (a : Addr) (xs : List V) (h : H a = some (.lst xs)) : Odd H (.ref a)
theorem Odd.same {H H' : Hp} {v : V} (h : Odd H v) (s : Same H H') : Odd H' v := by
  cases h with
  | int i => exact .int i
  | bl b => exact .bl b
  | non => exact .non
  | str x => exact .str x
  | tup a xs h => exact .tup a xs (s _ _ h)
  | lst a xs h => exact .lst a xs (s _ _ h)
def isB (v : V) (b : Int) : Bool := match v with
  | .int i => decide (0 ≤ i) && decide (i < b)
  | _ => false
theorem isB_int {i b : Int} (h0 : 0 ≤ i) (h1 : i < b) : isB (.int i) b = true := by
  show (decide (0 ≤ i) && decide (i < b)) = true
  rw [decide_eq_true h0, decide_eq_true h1]; rfl

def sp_is_below (K : PySem.W.Frag) : Sp := fun vs H Q _ => ∃ (v : V) (b : Int), vs = [v, .int b] ∧ Odd H v ∧ Q (.bl (isB v b)) H
theorem ok_is_below (T : Txt K mg) : FnOk P w K mg base CX0 1 T.a_is_below T.fd_is_below ["value", "bound"] (sp_is_below K) := by
  refine T.F_is_below.ok sc_is_below (fun vs H Q E h => ?_) (fun cdv A outer s H vs Q E hr h => ?_)
  · obtain ⟨v, b, rfl, _⟩ := h
    rfl
  · obtain ⟨v, b, rfl, hv, q⟩ := h
    refine ⟨_, (pss_one (ps_ret (pe_and (pe_callB (id := "isinstance") (r := rIsi K) call_isi (by rfl) T.m_isinstance (by decide +kernel) (pa_cons (pv 0) (pa_cons (pe_bltn (v := .ty "int") (by rfl) T.m_int (by decide +kernel) rfl) pa_nil))) (pe_and (pe_not (pe_callB (id := "isinstance") (r := rIsi K) call_isi (by rfl) T.m_isinstance (by decide +kernel) (pa_cons (pv 0) (pa_cons (pe_bltn (v := .ty "bool") (by rfl) T.m_bool (by decide +kernel) rfl) pa_nil)))) (pe_one (pe_chain op_le op_lt pe_int (pv 0) (pv 1))))))), ?_⟩
    walk_at "start"
    cases hv with
    | int i =>
      walk_at "x"
      walk_at "is"
      walk_at "t"
      walk_at "is"
      walk_at "t"
      refine x_ite (fun h0 => ?_) (fun h0 => ?_)
      · walk_at "x"
        have e : isB (.int i) b = decide (i < b) := by show (decide (0 ≤ i) && decide (i < b)) = _; rw [decide_eq_true h0]; rfl
        rw [← e]; exact q
      · have e : isB (.int i) b = false := by show (decide (0 ≤ i) && decide (i < b)) = _; rw [decide_eq_false h0]; rfl
        rw [← e]; exact q
    | bl x =>
      walk_at "x"
      walk_at "is"
      walk_at "t"
      walk_at "is"
      walk_at "f"
      exact q
    | non =>
      walk_at "x"
      walk_at "is"
      walk_at "f"
      exact q
    | str x =>
      walk_at "x"
      walk_at "is"
      walk_at "f"
      exact q
    | tup a xs h =>
      walk_at "x"
      walk_at "is"
      walk_at "f"
      exact q
    | lst a xs h =>
      walk_at "x"
      walk_at "is"
      walk_at "f"
      exact q


open Br
theorem DAt.odd {d : Addr} {H : Hp} {v : V} {e : PyData} (h : DAt d H v e) : Odd H v := by
  cases h with
  | non => exact .non
  | bl b => exact .bl b
  | int i => exact .int i
  | str x => exact .str x
  | lst hd h hs => exact .lst _ _ h
  | tup h hs => exact .tup _ _ h
theorem DAt.isB {d : Addr} {H : Hp} {v : V} {e : PyData} (h : DAt d H v e) {b : Int} : isB v b = isBD b e := by
  cases h <;> rfl
theorem range_allD {ds : List PyData} {f : PyData → Bool} : ((List.range ds.length).map fun i => f (ds.getD i .none)).all id = ds.all f := by
  have e : (List.range ds.length).map (fun i => f (ds.getD i .none)) = ds.map f := by
    apply List.ext_getElem?
    intro i
    rw [List.getElem?_map, List.getElem?_map]
    by_cases h : i < ds.length
    · rw [List.getElem?_range h, List.getElem?_eq_getElem h]
      show some (f (ds.getD i .none)) = some (f ds[i])
      rw [List.getD_eq_getElem?_getD, List.getElem?_eq_getElem h]; rfl
    · rw [List.getElem?_eq_none (by simpa using h), List.getElem?_eq_none (by simpa using h)]
      rfl
  rw [e, List.all_map]
  rfl
theorem getDD {ds : List PyData} {i : Nat} {e : PyData} (h : ds[i]? = some e) : ds.getD i .none = e := by rw [List.getD_eq_getElem?_getD, h]; rfl






end
end Br
namespace Br
open PySem PySem.Spec PyProof.Rows L2
local macro_rules | `(tactic| walk_at "x1") => `(tactic| (with_reducible first
  | refine Br.x_seq ?_ | refine Br.x_set ?_ | refine Br.x_asg ?_ | refine Br.x_next ?_ | refine Br.x_ret ?_ | refine Br.x_retN ?_ | refine Br.x_drop ?_ | refine Br.x_if ?_ | refine Br.x_brk ?_ | refine Br.x_cont ?_
  | refine Br.x_c ?_ | refine Br.x_op ?_ | refine Br.x_un ?_ | refine Br.x_I0 ?_ | refine Br.x_U ?_ | refine Br.x_EqI ?_ | refine Br.x_NeI ?_ | refine Br.x_EqB ?_ | refine Br.x_iN ?_ | refine Br.x_int1 ?_ | refine Br.x_min2 ?_ | refine Br.x_max2 ?_ | refine Br.x_nN ?_ | refine Br.x_ifE ?_
  | refine Br.x_test (b := ()) ?_ | refine Br.x_tB ?_ | refine Br.x_bl ?_ | refine Br.x_and ?_ | refine Br.x_or ?_ | refine Br.x_not ?_ | refine Br.x_andV ?_ | refine Br.x_orV ?_ | refine Br.x_notV ?_ | refine Br.x_blP ?_
  | refine Br.x_nil ?_ | refine Br.x_cons ?_ | refine Br.x_call ?_ | refine Br.x_CB ?_ | refine Br.x_BM ?_ | refine Br.x_tup ?_ | refine Br.x_lst ?_ | refine Br.x_chain ?_ | refine Br.x_par ?_ | refine Br.x_gSub ?_ | refine Br.x_gName ?_ | refine Br.x_fld ?_ | refine Br.x_fldS ?_ | refine Br.x_match ?_ | refine Br.x_else ?_ | refine Br.x_noCase ?_))
local macro_rules | `(tactic| walk_at "xv") => `(tactic| ((with_reducible refine' Br.x_var ?hvar ?_); (case hvar => rfl)))
local macro_rules | `(tactic| walk_at "xd") => `(tactic| (dsimp only [List.set_cons_zero, List.set_cons_succ, List.cons_append, List.nil_append, List.append_nil]))
local macro_rules | `(tactic| walk_at "xi") => `(tactic| ((with_reducible refine Br.x_I ?hside ?_); (case hside => first | exact Br.mul_r (by decide) (by decide) | exact Br.mul_l (by decide) (by decide) | exact Br.mul_l (by omega) (by omega) | exact Br.mul_r (by omega) (by omega) | (show (0 : Int) < _; first | decide | omega) | exact ⟨by decide, by decide⟩ | exact ⟨by omega, by omega⟩ | exact ⟨by decide, by decide, by decide⟩)))
local macro_rules | `(tactic| walk_at "x") => `(tactic| (repeat (first | walk_at "x1" | walk_at "xv" | walk_at "xi" | walk_at "xd")))
local macro_rules | `(tactic| walk_at "start") => `(tactic| (simp only [L2.start, List.map_cons, List.map_nil, List.length_cons, List.length_nil, Nat.reduceAdd, Nat.reduceSub, List.replicate, List.cons_append, List.nil_append, List.append_nil]))
local macro_rules | `(tactic| walk_at "isi") => `(tactic| first
  | refine Br.x_isi (b := true) (.base (.int _)) (by decide +kernel) ?_ | refine Br.x_isi (b := false) (.base (.int _)) (by decide +kernel) ?_
  | refine Br.x_isi (b := true) (.base (.bl _)) (by decide +kernel) ?_ | refine Br.x_isi (b := false) (.base (.bl _)) (by decide +kernel) ?_
  | refine Br.x_isi (b := false) (.base .non) (by decide +kernel) ?_
  | refine Br.x_isi (b := true) (.base (.str _)) (by decide +kernel) ?_ | refine Br.x_isi (b := false) (.base (.str _)) (by decide +kernel) ?_
  | refine Br.x_isi (b := true) (.base (.tup (by assumption))) (by decide +kernel) ?_ | refine Br.x_isi (b := false) (.base (.tup (by assumption))) (by decide +kernel) ?_
  | refine Br.x_isi (b := true) (.base (.lst (by assumption))) (by decide +kernel) ?_ | refine Br.x_isi (b := false) (.base (.lst (by assumption))) (by decide +kernel) ?_)
local macro_rules | `(tactic| walk_at "f") => `(tactic| (refine L2.iteF ?_; walk_at "x"))
local macro_rules | `(tactic| walk_at "t") => `(tactic| (refine L2.iteT ?_; walk_at "x"))
local macro_rules | `(tactic| walk_at "is") => `(tactic| (walk_at "isi"; walk_at "x"))
local macro_rules | `(tactic| walk_at "xb") => `(tactic| (simp only [Br.bindS, List.set_cons_zero, List.set_cons_succ]; walk_at "x"))

section
variable {P : Program} {w : World} {K : PySem.W.Frag} {mg : Str → Option Value} {base : Heap}

/-! ### steps as data of any shape (k04) -/
open Br.F
def iD : PyData → Int
  | .int i => i
  | _ => -1
def rowXD (size : Nat) (n : Int) : PyData → Bool
  | .tuple es => decide (es.length = size) && es.all (isBD n)
  | _ => false
def tabXD (n : Int) : PyData → Bool
  | .tuple rs => (decide (1 ≤ rs.length) && decide ((rs.length : Int) ≤ n)) && rs.all (rowXD rs.length n)
  | _ => false
def factD (t c i : Int) : PyData → Bool
  | .tuple [.str w, x] => if w = "cell" then isBD c x && !decide (iD x = t) else if w = "input" then isBD i x else false
  | _ => false
def factsD (t c i : Int) : PyData → Bool
  | .tuple fs => decide (fs.length ≤ 3) && fs.all (factD t c i)
  | _ => false
def threeD (c : Int) (x y z : PyData) : Bool := (isBD c x && (isBD c y && isBD c z)) && (!decide (iD x = iD y) && (!decide (iD x = iD z) && !decide (iD y = iD z)))
def signD (m : Int) (s : PyData) : Bool := isBD m s && (decide (iD s = 1) || decide (iD s = m - 1))
def stepD (m c i : Int) : PyData → Bool
  | .tuple [.str w, x, y] => if w = "scale" then isBD c x && (isBD m y && decide (((Nat.gcd (iD y).natAbs m.natAbs : Nat) : Int) = 1)) else if w = "swap" then isBD c x && (isBD c y && !decide (iD x = iD y)) else false
  | .tuple [.str w, x, k, fs] => if w = "add" then isBD c x && (isBD m k && factsD (iD x) c i fs) else false
  | .tuple [.str w, x, s, tb, y, z] => if w = "table" then threeD c x y z && (signD m s && tabXD m tb) else false
  | _ => false
theorem isBD_int {b : Int} {e : PyData} (h : isBD b e = true) : ∃ j : Int, e = .int j ∧ 0 ≤ j ∧ j < b := by
  cases e with
  | int j =>
    have h : (decide (0 ≤ j) && decide (j < b)) = true := h
    rw [Bool.and_eq_true, decide_eq_true_iff, decide_eq_true_iff] at h
    exact ⟨j, rfl, h.1, h.2⟩
  | _ => cases h
theorem DAt.intv {d : Addr} {H : Hp} {v : V} {j : Int} (h : DAt d H v (.int j)) : v = .int j := by cases h; rfl
theorem fc2 {t c i : Int} {w : Str} {x : PyData} : factD t c i (.tuple [.str w, x]) = (if w = "cell" then isBD c x && !decide (iD x = t) else if w = "input" then isBD i x else false) := rfl
theorem fact_no {t c i : Int} : ∀ {es : List PyData}, wordAt es 2 "cell" = false → wordAt es 2 "input" = false → factD t c i (.tuple es) = false := by
  intro es h1 h2
  unfold factD
  split
  · rename_i w x he
    cases he
    have h1 : (decide (w = "cell")) = false := by simpa [wordAt] using h1
    have h2 : (decide (w = "input")) = false := by simpa [wordAt] using h2
    rw [if_neg (of_decide_eq_false h1), if_neg (of_decide_eq_false h2)]
  · rfl

def sp_is_factor (K : PySem.W.Frag) : Sp := fun vs H Q _ => ∃ (d : Addr) (v : V) (e : PyData) (t c i : Int), vs = [v, .int t, .int c, .int i] ∧ DAt d H v e ∧ Sh e ∧ Q (.bl (factD t c i e)) H
theorem ok_is_factor (T : Txt K mg) : FnOk P w K mg base CX0 2 T.a_is_factor T.fd_is_factor ["factor", "target", "cells", "inputs"] (sp_is_factor K) := by
  refine T.F_is_factor.ok sc_is_factor (fun vs H Q E h => ?_) (fun cdv A outer s H vs Q E hr h => ?_)
  · obtain ⟨d, v, e, t, c, i, rfl, _⟩ := h
    rfl
  · obtain ⟨d, v, e, t, c, i, rfl, hv, hsh, q⟩ := h
    refine ⟨_, (pss_cons (ps_if (pt_not (pt_val (pe_callB (id := "isinstance") (r := rIsi K) call_isi (by rfl) T.m_isinstance (by decide +kernel) (pa_cons (pv 0) (pa_cons (pe_bltn (v := .ty "tuple") (by rfl) T.m_tuple (by decide +kernel) rfl) pa_nil)))))
      (pss_one (ps_ret pe_bl))
      pss_nil)
      (pss_one (ps_match (pv 0) (pcs_seq rfl (op_eqD hr.units) (pcap_name 4 sc_is_factor.nd rfl (.inl rfl) pcap_nil)
      (pss_one (ps_ret (pe_and (pe_call (ok_is_below T) hr (by rfl) T.g_is_below T.F_is_below.kp T.b_is_below .nil pass0 (pa_cons (pv 4) (pa_cons (pv 2) pa_nil))) (pe_one (pe_cmpR op_ne (pv 4) (pv 1) (nomark _))))))
      (pcs_seq rfl (op_eqD hr.units) (pcap_name 4 sc_is_factor.nd rfl (.inl rfl) pcap_nil)
      (pss_one (ps_ret (pe_call (ok_is_below T) hr (by rfl) T.g_is_below T.F_is_below.kp T.b_is_below .nil pass0 (pa_cons (pv 4) (pa_cons (pv 3) pa_nil)))))
      (pcs_else (rest := _) (pss_one (ps_ret pe_bl)))))))), ?_⟩
    walk_at "start"
    cases hv with
    | tup h hs =>
      rename_i a xs es
      have hsh := hsh.of_tup
      walk_at "x"
      walk_at "is"
      walk_at "f"
      refine x_caseD (st_of h) hs hsh (by decide +kernel) (by decide) (fun y ys er h1 h2 h3 h4 => ?_) (fun c1 => ?_)
      · subst h2
        obtain ⟨k, rfl⟩ : ∃ k, er = [k] := by
          match er, h3 with
          | [k], _ => exact ⟨k, rfl⟩
        rw [fc2, if_pos rfl] at q
        cases h4 with
        | cons h4 h5 =>
          cases h5
          walk_at "xb"
          refine ⟨_, c, rfl, h4.odd, ?_⟩
          rw [h4.isB]
          refine x_blP ?_
          refine x_iteB (fun hb => ?_) (fun hb => ?_)
          · obtain ⟨j, rfl, _, _⟩ := isBD_int hb
            cases h4
            walk_at "x"
            rw [hb, Bool.true_and] at q
            exact q
          · rw [hb, Bool.false_and] at q
            exact q
      refine x_caseD (st_of h) hs hsh (by decide +kernel) (by decide) (fun y ys er h1 h2 h3 h4 => ?_) (fun c2 => ?_)
      · subst h2
        obtain ⟨k, rfl⟩ : ∃ k, er = [k] := by
          match er, h3 with
          | [k], _ => exact ⟨k, rfl⟩
        rw [fc2, if_neg (by decide), if_pos rfl] at q
        cases h4 with
        | cons h4 h5 =>
          cases h5
          walk_at "xb"
          refine ⟨_, i, rfl, h4.odd, ?_⟩
          rw [h4.isB]
          exact q
      walk_at "x"
      rw [fact_no c1 c2] at q
      exact q
    | lst hd h hs =>
      walk_at "x"
      walk_at "is"
      walk_at "t"
      exact q
    | int i =>
      walk_at "x"
      walk_at "is"
      walk_at "t"
      exact q
    | bl b =>
      walk_at "x"
      walk_at "is"
      walk_at "t"
      exact q
    | non =>
      walk_at "x"
      walk_at "is"
      walk_at "t"
      exact q
    | str z =>
      walk_at "x"
      walk_at "is"
      walk_at "t"
      exact q


def sp_are_factors (K : PySem.W.Frag) : Sp := fun vs H Q _ => ∃ (d : Addr) (v : V) (e : PyData) (t c i : Int), vs = [v, .int t, .int c, .int i] ∧ DAt d H v e ∧ Sh e ∧ ∀ H', Same H H' → Q (.bl (factsD t c i e)) H'
theorem ok_are_factors (T : Txt K mg) : FnOk P w K mg base CX0 3 T.a_are_factors T.fd_are_factors ["factors", "target", "cells", "inputs"] (sp_are_factors K) := by
  refine T.F_are_factors.ok sc_are_factors (fun vs H Q E h => ?_) (fun cdv A outer s H vs Q E hr h => ?_)
  · obtain ⟨d, v, e, t, c, i, rfl, _⟩ := h
    rfl
  · obtain ⟨d, v, e, t, c, i, rfl, hv, hsh, q⟩ := h
    refine ⟨_, (pss_cons (ps_if (PW.pt (pw_or (pt_not (pt_val (pe_callB (id := "isinstance") (r := rIsi K) call_isi (by rfl) T.m_isinstance (by decide +kernel) (pa_cons (pv 0) (pa_cons (pe_bltn (v := .ty "tuple") (by rfl) T.m_tuple (by decide +kernel) rfl) pa_nil))))) (pw_or1 (pt_cmpR op_gt (pe_callB (id := "len") (r := rLen K) cr_len (by rfl) T.m_len PySem.boot_len (pa_cons (pv 0) pa_nil)) (pe_glob (v := .int 3) (by rfl) T.c_MOST_FACTORS ⟨_, rfl⟩) (nomark _)))))
      (pss_one (ps_ret pe_bl))
      pss_nil)
      (pss_one (ps_ret (pe_callB (id := "all") (r := rAll K) (cr_all rfl) (by rfl) T.m_all (by decide +kernel) (pa_cons (pe_lc (own := [("factor", 4)]) (g := gName 4) (tt := tYes) rfl sc_are_factors.nd (pi_tup (pv 0)) (blkOk_by (N := N_are_factors) (sc := defScope s_are_factors) (by decide +kernel)) (fun _ _ _ _ _ => (pg_name (i := 4) sc_are_factors.nd rfl (Or.inl rfl))) (fun _ _ _ _ _ => pts_nil) (fun _ _ _ _ _ => (pe_call (ok_is_factor T) hr (by rfl) T.g_is_factor T.F_is_factor.kp T.b_is_factor .nil pass0 (pa_cons (pv 4) (pa_cons (pv 1) (pa_cons (pv 2) (pa_cons (pv 3) pa_nil))))))) pa_nil))))), ?_⟩
    walk_at "start"
    cases hv with
    | tup h hs =>
      rename_i a xs es
      have hsh := hsh.of_tup
      have hlen := hs.len
      have ep : factsD t c i (.tuple es) = (decide (es.length ≤ 3) && es.all (factD t c i)) := rfl
      walk_at "x"
      walk_at "is"
      walk_at "f"
      refine x_lenT (st_of h) ?_
      walk_at "x"
      refine x_ite (fun hc => ?_) (fun hc => ?_)
      · walk_at "x"
        have e : factsD t c i (.tuple es) = false := by rw [ep, decide_eq_false (by omega)]; rfl
        rw [← e]
        exact q H (Same.refl _)
      · walk_at "x"
        refine x_lcB (xs := xs) (fun k => factD t c i (es.getD k .none)) (J := Itt K a) (G := fun H => SqT K H a xs) (fun R r => ⟨_, rfl, a, rfl, ⟨xs, st_of h⟩, r⟩) walk_tup (by omega) (fun H' s => st_of (s _ _ h)) (fun x => rfl) ?_ ?_
        · intro k x H' s hx R hR
          obtain ⟨f, hf, hxf⟩ := hs.get hx
          rw [getDD hf] at hR
          have hxf := DAt.same s f hxf
          walk_at "x"
          exact ⟨d, x, f, t, c, i, rfl, hxf, hsh f (List.mem_of_getElem? hf), hR H' (Same.refl _)⟩
        · intro p H' hp s hP
          walk_at "x"
          refine x_all hP ?_
          rw [hlen, range_allD (f := factD t c i)]
          have e : factsD t c i (.tuple es) = es.all (factD t c i) := by rw [ep, decide_eq_true (by omega), Bool.true_and]
          rw [← e]
          exact q H' s
    | lst hd h hs =>
      walk_at "x"
      walk_at "is"
      walk_at "t"
      exact q H (Same.refl _)
    | int i =>
      walk_at "x"
      walk_at "is"
      walk_at "t"
      exact q H (Same.refl _)
    | bl b =>
      walk_at "x"
      walk_at "is"
      walk_at "t"
      exact q H (Same.refl _)
    | non =>
      walk_at "x"
      walk_at "is"
      walk_at "t"
      exact q H (Same.refl _)
    | str z =>
      walk_at "x"
      walk_at "is"
      walk_at "t"
      exact q H (Same.refl _)


def sp_are_three_cells (K : PySem.W.Frag) : Sp := fun vs H Q _ => ∃ (d : Addr) (x y z : V) (ex ey ez : PyData) (c : Int), vs = [x, y, z, .int c] ∧ DAt d H x ex ∧ DAt d H y ey ∧ DAt d H z ez ∧ ∀ H', Same H H' → Q (.bl (threeD c ex ey ez)) H'
theorem ok_are_three_cells (T : Txt K mg) : FnOk P w K mg base CX0 2 T.a_are_three_cells T.fd_are_three_cells ["target", "a", "b", "cells"] (sp_are_three_cells K) := by
  refine T.F_are_three_cells.ok sc_are_three_cells (fun vs H Q E h => ?_) (fun cdv A outer s H vs Q E hr h => ?_)
  · obtain ⟨d, x, y, z, ex, ey, ez, c, rfl, _⟩ := h
    rfl
  · obtain ⟨d, x, y, z, ex, ey, ez, c, rfl, hx, hy, hz, q⟩ := h
    have hs : DAts d H [x, y, z] [ex, ey, ez] := .cons hx (.cons hy (.cons hz .nil))
    refine ⟨_, (pss_cons (ps_if (pt_not (pt_val (pe_callB (id := "all") (r := rAll K) (cr_all rfl) (by rfl) T.m_all (by decide +kernel) (pa_cons (pe_lc (own := [("cell", 4)]) (g := gName 4) (tt := tYes) rfl sc_are_three_cells.nd (pi_tup (pe_tup (pa_cons (pv 0) (pa_cons (pv 1) (pa_cons (pv 2) pa_nil))))) (blkOk_by (N := N_are_three_cells) (sc := defScope s_are_three_cells) (by decide +kernel)) (fun _ _ _ _ _ => (pg_name (i := 4) sc_are_three_cells.nd rfl (Or.inl rfl))) (fun _ _ _ _ _ => pts_nil) (fun _ _ _ _ _ => (pe_call (ok_is_below T) hr (by rfl) T.g_is_below T.F_is_below.kp T.b_is_below .nil pass0 (pa_cons (pv 4) (pa_cons (pv 3) pa_nil))))) pa_nil))))
      (pss_one (ps_ret pe_bl))
      pss_nil)
      (pss_one (ps_ret (pe_and (pe_cmpR op_ne (pv 0) (pv 1) (nomark _)) (pe_and (pe_cmpR op_ne (pv 0) (pv 2) (nomark _)) (pe_one (pe_cmpR op_ne (pv 1) (pv 2) (nomark _)))))))), ?_⟩
    walk_at "start"
    walk_at "x"
    refine x_lcB0 (xs := [x, y, z]) (fun k => isBD c ([ex, ey, ez].getD k .none)) (Nat.le_of_ble_eq_true rfl) (fun R hR => ?_) (fun x => rfl) ?_ ?_
    · unfold iTup
      walk_at "x"
      refine ⟨by show 3 ≤ sizeLine; decide, fun o ho => ?_⟩
      exact ⟨o, rfl, ⟨_, st_of upd_same⟩, hR (Itt K o) _ _ (same_upd ho) walk_tup fun H' s => st_of (s _ _ upd_same)⟩
    · intro k v H' hs' hx' R hR
      obtain ⟨f, hf, hvf⟩ := hs.get hx'
      rw [getDD hf] at hR
      have hvf := DAt.same hs' f hvf
      walk_at "x"
      refine ⟨_, _, rfl, hvf.odd, ?_⟩
      rw [hvf.isB]
      exact hR H' (Same.refl _)
    · intro p H' hs' hP
      walk_at "x"
      refine x_all hP ?_
      rw [show [x, y, z].length = [ex, ey, ez].length from rfl, range_allD (ds := [ex, ey, ez]) (f := isBD c)]
      have ea : [ex, ey, ez].all (isBD c) = (isBD c ex && (isBD c ey && isBD c ez)) := by show (isBD c ex && (isBD c ey && (isBD c ez && true))) = _; rw [Bool.and_true]
      rw [ea]
      unfold threeD at q
      by_cases h3 : (isBD c ex && (isBD c ey && isBD c ez)) = true
      · rw [h3] at q ⊢
        rw [Bool.and_eq_true, Bool.and_eq_true] at h3
        obtain ⟨ix, rfl, _, _⟩ := isBD_int h3.1
        obtain ⟨iy, rfl, _, _⟩ := isBD_int h3.2.1
        obtain ⟨iz, rfl, _, _⟩ := isBD_int h3.2.2
        cases hx
        cases hy
        cases hz
        rw [Bool.true_and] at q
        have q : ∀ H', Same H H' → Q (.bl (!decide (ix = iy) && (!decide (ix = iz) && !decide (iy = iz)))) H' := q
        walk_at "x"
        walk_at "f"
        by_cases e1 : ix = iy
        · rw [decide_eq_true e1] at q ⊢
          walk_at "f"
          exact q H' hs'
        · rw [decide_eq_false e1] at q ⊢
          walk_at "t"
          by_cases e2 : ix = iz
          · rw [decide_eq_true e2] at q ⊢
            walk_at "f"
            exact q H' hs'
          · rw [decide_eq_false e2] at q ⊢
            walk_at "t"
            exact q H' hs'
      · rw [Bool.not_eq_true] at h3
        rw [h3] at q ⊢
        walk_at "x"
        walk_at "t"
        exact q H' hs'


def sp_is_sign (K : PySem.W.Frag) : Sp := fun vs H Q _ => ∃ (d : Addr) (v : V) (e : PyData) (m : Int), vs = [v, .int m] ∧ DAt d H v e ∧ ∀ H', Same H H' → Q (.bl (signD m e)) H'
theorem ok_is_sign (T : Txt K mg) : FnOk P w K mg base CX0 2 T.a_is_sign T.fd_is_sign ["sign", "modulus"] (sp_is_sign K) := by
  refine T.F_is_sign.ok sc_is_sign (fun vs H Q E h => ?_) (fun cdv A outer s H vs Q E hr h => ?_)
  · obtain ⟨d, v, e, m, rfl, _⟩ := h
    rfl
  · obtain ⟨d, v, e, m, rfl, hv, q⟩ := h
    refine ⟨_, (pss_one (ps_ret (pe_and (pe_call (ok_is_below T) hr (by rfl) T.g_is_below T.F_is_below.kp T.b_is_below .nil pass0 (pa_cons (pv 0) (pa_cons (pv 1) pa_nil))) (pe_one (pe_cmpR (r := rIn K false) op_in_seq (pv 0) (pe_tup (pa_cons pe_int (pa_cons (pe_op op_sub (pv 1) pe_int) pa_nil))) (by with_unfolding_all rfl)))))), ?_⟩
    walk_at "start"
    walk_at "x"
    refine ⟨_, _, rfl, hv.odd, ?_⟩
    rw [hv.isB]
    unfold signD at q
    by_cases hb : isBD m e = true
    · rw [hb] at q ⊢
      obtain ⟨j, rfl, _, _⟩ := isBD_int hb
      cases hv
      rw [Bool.true_and] at q
      have q : ∀ H', Same H H' → Q (.bl (decide (j = 1) || decide (j = m - 1))) H' := q
      walk_at "x"
      walk_at "t"
      refine ⟨by show 2 ≤ sizeLine; decide, fun o ho => ?_⟩
      refine ⟨o, [.int 1, .int (m - 1)], rfl, .inr (st_of upd_same), rfl, rfl, ?_⟩
      have e : inV (.int j) [.int 1, .int (m - 1)] = (decide (j = 1) || decide (j = m - 1)) := by
        show ((1 : Int) == j || (m - 1 == j || false)) = _
        rw [Bool.or_false]
        congr 1
        · exact decide_eq_decide.mpr ⟨fun h => h.symm, fun h => h.symm⟩
        · exact decide_eq_decide.mpr ⟨fun h => h.symm, fun h => h.symm⟩
      rw [e]
      exact q _ (same_upd ho)
    · rw [Bool.not_eq_true] at hb
      rw [hb] at q ⊢
      walk_at "x"
      walk_at "f"
      exact q H (Same.refl _)


def sp_is_row (K : PySem.W.Frag) : Sp := fun vs H Q _ => ∃ (d : Addr) (v : V) (e : PyData) (k n : Nat), vs = [v, .int (k : Int), .int (n : Int)] ∧ DAt d H v e ∧ k ≤ 1000 ∧ ∀ H', Same H H' → Q (.bl (rowXD k (n : Int) e)) H'
theorem ok_is_row (T : Txt K mg) : FnOk P w K mg base CX0 2 T.a_is_row T.fd_is_row ["row", "size", "modulus"] (sp_is_row K) := by
  refine T.F_is_row.ok sc_is_row (fun vs H Q E h => ?_) (fun cdv A outer s H vs Q E hr h => ?_)
  · obtain ⟨d, v, e, k, n, rfl, _⟩ := h
    rfl
  · obtain ⟨d, v, e, k, n, rfl, hv, hk, q⟩ := h
    refine ⟨_, (pss_cons (ps_if (PW.pt (pw_or (pt_not (pt_val (pe_callB (id := "isinstance") (r := rIsi K) call_isi (by rfl) T.m_isinstance (by decide +kernel) (pa_cons (pv 0) (pa_cons (pe_bltn (v := .ty "tuple") (by rfl) T.m_tuple (by decide +kernel) rfl) pa_nil))))) (pw_or1 (pt_cmpR op_ne (pe_callB (id := "len") (r := rLen K) cr_len (by rfl) T.m_len PySem.boot_len (pa_cons (pv 0) pa_nil)) (pv 1) (nomark _)))))
      (pss_one (ps_ret pe_bl))
      pss_nil)
      (pss_one (ps_ret (pe_callB (id := "all") (r := rAll K) (cr_all rfl) (by rfl) T.m_all (by decide +kernel) (pa_cons (pe_lc (own := [("value", 3)]) (g := gName 3) (tt := tYes) rfl sc_is_row.nd (pi_tup (pv 0)) (blkOk_by (N := N_is_row) (sc := defScope s_is_row) (by decide +kernel)) (fun _ _ _ _ _ => (pg_name (i := 3) sc_is_row.nd rfl (Or.inl rfl))) (fun _ _ _ _ _ => pts_nil) (fun _ _ _ _ _ => (pe_call (ok_is_below T) hr (by rfl) T.g_is_below T.F_is_below.kp T.b_is_below .nil pass0 (pa_cons (pv 3) (pa_cons (pv 2) pa_nil))))) pa_nil))))), ?_⟩
    walk_at "start"
    cases hv with
    | tup h hs =>
      rename_i a xs es
      have hlen := hs.len
      have ep : rowXD k (n : Int) (.tuple es) = (decide (es.length = k) && es.all (isBD (n : Int))) := rfl
      walk_at "x"
      walk_at "is"
      walk_at "f"
      refine x_lenT (st_of h) ?_
      walk_at "x"
      refine x_iteN (fun hc => ?_) (fun hc => ?_)
      · walk_at "x"
        have e : rowXD k (n : Int) (.tuple es) = false := by rw [ep, decide_eq_false (by omega)]; rfl
        rw [← e]
        exact q H (Same.refl _)
      · walk_at "x"
        refine x_lcB (xs := xs) (fun i => isBD (n : Int) (es.getD i .none)) (J := Itt K a) (G := fun H => SqT K H a xs) (fun R r => ⟨_, rfl, a, rfl, ⟨xs, st_of h⟩, r⟩) walk_tup (by omega) (fun H' s => st_of (s _ _ h)) (fun x => rfl) ?_ ?_
        · intro i x H' s hx R hR
          obtain ⟨f, hf, hxf⟩ := hs.get hx
          rw [getDD hf] at hR
          have hxf := DAt.same s f hxf
          walk_at "x"
          refine ⟨x, (n : Int), rfl, hxf.odd, ?_⟩
          rw [hxf.isB]
          exact hR H' (Same.refl _)
        · intro p H' hp s hP
          walk_at "x"
          refine x_all hP ?_
          rw [hlen, range_allD (f := isBD (n : Int))]
          have e : rowXD k (n : Int) (.tuple es) = es.all (isBD (n : Int)) := by rw [ep, decide_eq_true (by omega), Bool.true_and]
          rw [← e]
          exact q H' s
    | lst hd h hs =>
      walk_at "x"
      walk_at "is"
      walk_at "t"
      exact q H (Same.refl _)
    | int i =>
      walk_at "x"
      walk_at "is"
      walk_at "t"
      exact q H (Same.refl _)
    | bl b =>
      walk_at "x"
      walk_at "is"
      walk_at "t"
      exact q H (Same.refl _)
    | non =>
      walk_at "x"
      walk_at "is"
      walk_at "t"
      exact q H (Same.refl _)
    | str z =>
      walk_at "x"
      walk_at "is"
      walk_at "t"
      exact q H (Same.refl _)


def sp_is_table (K : PySem.W.Frag) : Sp := fun vs H Q _ => ∃ (d : Addr) (v : V) (e : PyData) (n : Nat), vs = [v, .int (n : Int)] ∧ DAt d H v e ∧ (∀ es, e = .tuple es → es.length ≤ 1000) ∧ ∀ H', Same H H' → Q (.bl (tabXD (n : Int) e)) H'
theorem ok_is_table (T : Txt K mg) : FnOk P w K mg base CX0 3 T.a_is_table T.fd_is_table ["table", "modulus"] (sp_is_table K) := by
  refine T.F_is_table.ok sc_is_table (fun vs H Q E h => ?_) (fun cdv A outer s H vs Q E hr h => ?_)
  · obtain ⟨d, v, e, n, rfl, _⟩ := h
    rfl
  · obtain ⟨d, v, e, n, rfl, hv, hz, q⟩ := h
    refine ⟨_, (pss_cons (ps_if (PW.pt (pw_or (pt_not (pt_val (pe_callB (id := "isinstance") (r := rIsi K) call_isi (by rfl) T.m_isinstance (by decide +kernel) (pa_cons (pv 0) (pa_cons (pe_bltn (v := .ty "tuple") (by rfl) T.m_tuple (by decide +kernel) rfl) pa_nil))))) (pw_or1 (pt_not (pt_chain op_le op_le pe_int (pe_callB (id := "len") (r := rLen K) cr_len (by rfl) T.m_len PySem.boot_len (pa_cons (pv 0) pa_nil)) (pv 1))))))
      (pss_one (ps_ret pe_bl))
      pss_nil)
      (pss_one (ps_ret (pe_callB (id := "all") (r := rAll K) (cr_all rfl) (by rfl) T.m_all (by decide +kernel) (pa_cons (pe_lc (own := [("row", 2)]) (g := gName 2) (tt := tYes) rfl sc_is_table.nd (pi_tup (pv 0)) (blkOk_by (N := N_is_table) (sc := defScope s_is_table) (by decide +kernel)) (fun _ _ _ _ _ => (pg_name (i := 2) sc_is_table.nd rfl (Or.inl rfl))) (fun _ _ _ _ _ => pts_nil) (fun _ _ _ _ _ => (pe_call (ok_is_row T) hr (by rfl) T.g_is_row T.F_is_row.kp T.b_is_row .nil pass0 (pa_cons (pv 2) (pa_cons (pe_callB (id := "len") (r := rLen K) cr_len (by rfl) T.m_len PySem.boot_len (pa_cons (pv 0) pa_nil)) (pa_cons (pv 1) pa_nil)))))) pa_nil))))), ?_⟩
    walk_at "start"
    cases hv with
    | tup h hs =>
      rename_i a xs es
      have hlen := hs.len
      have hz := hz es rfl
      have ep : tabXD (n : Int) (.tuple es) = ((decide (1 ≤ es.length) && decide ((es.length : Int) ≤ (n : Int))) && es.all (rowXD es.length (n : Int))) := rfl
      walk_at "x"
      walk_at "is"
      walk_at "f"
      refine x_lenT (st_of h) ?_
      walk_at "x"
      have no : tabXD (n : Int) (.tuple es) = false → Q (.bl false) H := fun h => by rw [← h]; exact q H (Same.refl _)
      by_cases c1 : 1 ≤ es.length
      · rw [decide_eq_true (show (1 : Int) ≤ (xs.length : Int) by omega)]
        walk_at "t"
        by_cases c2 : es.length ≤ n
        · rw [decide_eq_true (show (xs.length : Int) ≤ (n : Int) by omega)]
          walk_at "f"
          refine x_lcB (xs := xs) (fun i => rowXD es.length (n : Int) (es.getD i .none)) (J := Itt K a) (G := fun H => SqT K H a xs) (fun R r => ⟨_, rfl, a, rfl, ⟨xs, st_of h⟩, r⟩) walk_tup (by omega) (fun H' s => st_of (s _ _ h)) (fun x => rfl) ?_ ?_
          · intro i x H' s hx R hR
            obtain ⟨f, hf, hxf⟩ := hs.get hx
            rw [getDD hf] at hR
            have hxf := DAt.same s f hxf
            walk_at "x"
            refine x_lenT (st_of (s _ _ h)) ?_
            walk_at "x"
            rw [hlen]
            exact ⟨d, x, f, es.length, n, rfl, hxf, by omega, fun H2 s2 => hR H2 s2⟩
          · intro p H' hp s hP
            walk_at "x"
            refine x_all hP ?_
            rw [hlen, range_allD (f := rowXD es.length (n : Int))]
            have e : tabXD (n : Int) (.tuple es) = es.all (rowXD es.length (n : Int)) := by rw [ep, decide_eq_true c1, decide_eq_true (show (es.length : Int) ≤ (n : Int) by omega), Bool.true_and, Bool.true_and]
            rw [← e]
            exact q H' s
        · rw [decide_eq_false (show ¬ (xs.length : Int) ≤ (n : Int) by omega)]
          walk_at "t"
          exact no (by rw [ep, decide_eq_false (show ¬ (es.length : Int) ≤ (n : Int) by omega), Bool.and_false, Bool.false_and])
      · rw [decide_eq_false (show ¬ (1 : Int) ≤ (xs.length : Int) by omega)]
        walk_at "f"
        exact no (by rw [ep, decide_eq_false c1, Bool.false_and, Bool.false_and])
    | lst hd h hs =>
      walk_at "x"
      walk_at "is"
      walk_at "t"
      exact q H (Same.refl _)
    | int i =>
      walk_at "x"
      walk_at "is"
      walk_at "t"
      exact q H (Same.refl _)
    | bl b =>
      walk_at "x"
      walk_at "is"
      walk_at "t"
      exact q H (Same.refl _)
    | non =>
      walk_at "x"
      walk_at "is"
      walk_at "t"
      exact q H (Same.refl _)
    | str z =>
      walk_at "x"
      walk_at "is"
      walk_at "t"
      exact q H (Same.refl _)


/-- no tuple in it is long -/
def WdE (e : PyData) : Prop := ∀ es, e = .tuple es → ∀ f, f ∈ es → ∀ rs, f = .tuple rs → rs.length ≤ 1000
def sp_is_step (K : PySem.W.Frag) : Sp := fun vs H Q _ => ∃ (d : Addr) (v : V) (e : PyData) (m : Nat) (c i : Int), vs = [v, .int (m : Int), .int c, .int i] ∧ DAt d H v e ∧ Sh e ∧ WdE e ∧ ∀ H', Same H H' → Q (.bl (stepD (m : Int) c i e)) H'
theorem st3 {m c i : Int} {w : Str} {x y : PyData} : stepD m c i (.tuple [.str w, x, y]) = (if w = "scale" then isBD c x && (isBD m y && decide (((Nat.gcd (iD y).natAbs m.natAbs : Nat) : Int) = 1)) else if w = "swap" then isBD c x && (isBD c y && !decide (iD x = iD y)) else false) := rfl
theorem st4 {m c i : Int} {w : Str} {x k fs : PyData} : stepD m c i (.tuple [.str w, x, k, fs]) = (if w = "add" then isBD c x && (isBD m k && factsD (iD x) c i fs) else false) := rfl
theorem st6 {m c i : Int} {w : Str} {x s tb y z : PyData} : stepD m c i (.tuple [.str w, x, s, tb, y, z]) = (if w = "table" then threeD c x y z && (signD m s && tabXD m tb) else false) := rfl
theorem step_no {m c i : Int} : ∀ {es : List PyData}, wordAt es 4 "add" = false → wordAt es 3 "scale" = false → wordAt es 3 "swap" = false → wordAt es 6 "table" = false → stepD m c i (.tuple es) = false := by
  intro es h1 h2 h3 h4
  unfold stepD
  split
  · rename_i w x y he
    cases he
    have h2 : (decide (w = "scale")) = false := by simpa [wordAt] using h2
    have h3 : (decide (w = "swap")) = false := by simpa [wordAt] using h3
    rw [if_neg (of_decide_eq_false h2), if_neg (of_decide_eq_false h3)]
  · rename_i w x k fs he
    cases he
    have h1 : (decide (w = "add")) = false := by simpa [wordAt] using h1
    rw [if_neg (of_decide_eq_false h1)]
  · rename_i w x s tb y z he
    cases he
    have h4 : (decide (w = "table")) = false := by simpa [wordAt] using h4
    rw [if_neg (of_decide_eq_false h4)]
  · rfl
theorem ok_is_step (T : Txt K mg) : FnOk P w K mg base CX0 4 T.a_is_step T.fd_is_step ["step", "modulus", "cells", "inputs"] (sp_is_step K) := by
  refine T.F_is_step.ok sc_is_step (fun vs H Q E h => ?_) (fun cdv A outer s H vs Q E hr h => ?_)
  · obtain ⟨d, v, e, m, c, i, rfl, _⟩ := h
    rfl
  · obtain ⟨d, v, e, m, c, i, rfl, hv, hsh, hwd, q⟩ := h
    refine ⟨_, (pss_cons (ps_if (pt_not (pt_val (pe_callB (id := "isinstance") (r := rIsi K) call_isi (by rfl) T.m_isinstance (by decide +kernel) (pa_cons (pv 0) (pa_cons (pe_bltn (v := .ty "tuple") (by rfl) T.m_tuple (by decide +kernel) rfl) pa_nil)))))
      (pss_one (ps_ret pe_bl))
      pss_nil)
      (pss_one (ps_match (pv 0) (pcs_seq rfl (op_eqD hr.units) (pcap_name 4 sc_is_step.nd rfl (.inl rfl) (pcap_name 5 sc_is_step.nd rfl (.inl rfl) (pcap_name 6 sc_is_step.nd rfl (.inl rfl) pcap_nil)))
      (pss_one (ps_ret (pe_and (pe_call (ok_is_below T) (hr.mono (by decide)) (by rfl) T.g_is_below T.F_is_below.kp T.b_is_below .nil pass0 (pa_cons (pv 4) (pa_cons (pv 2) pa_nil))) (pe_and (pe_call (ok_is_below T) (hr.mono (by decide)) (by rfl) T.g_is_below T.F_is_below.kp T.b_is_below .nil pass0 (pa_cons (pv 5) (pa_cons (pv 1) pa_nil))) (pe_one (pe_call (ok_are_factors T) hr (by rfl) T.g_are_factors T.F_are_factors.kp T.b_are_factors .nil pass0 (pa_cons (pv 6) (pa_cons (pv 4) (pa_cons (pv 2) (pa_cons (pv 3) pa_nil))))))))))
      (pcs_seq rfl (op_eqD hr.units) (pcap_name 4 sc_is_step.nd rfl (.inl rfl) (pcap_name 7 sc_is_step.nd rfl (.inl rfl) pcap_nil))
      (pss_one (ps_ret (pe_and (pe_call (ok_is_below T) (hr.mono (by decide)) (by rfl) T.g_is_below T.F_is_below.kp T.b_is_below .nil pass0 (pa_cons (pv 4) (pa_cons (pv 2) pa_nil))) (pe_and (pe_call (ok_is_below T) (hr.mono (by decide)) (by rfl) T.g_is_below T.F_is_below.kp T.b_is_below .nil pass0 (pa_cons (pv 7) (pa_cons (pv 1) pa_nil))) (pe_one (pe_cmpR op_eq (pe_callBfun cr_gcd (by rfl) T.m_gcd (pa_cons (pv 7) (pa_cons (pv 1) pa_nil))) pe_int (nomark _)))))))
      (pcs_seq rfl (op_eqD hr.units) (pcap_name 8 sc_is_step.nd rfl (.inl rfl) (pcap_name 9 sc_is_step.nd rfl (.inl rfl) pcap_nil))
      (pss_one (ps_ret (pe_and (pe_call (ok_is_below T) (hr.mono (by decide)) (by rfl) T.g_is_below T.F_is_below.kp T.b_is_below .nil pass0 (pa_cons (pv 8) (pa_cons (pv 2) pa_nil))) (pe_and (pe_call (ok_is_below T) (hr.mono (by decide)) (by rfl) T.g_is_below T.F_is_below.kp T.b_is_below .nil pass0 (pa_cons (pv 9) (pa_cons (pv 2) pa_nil))) (pe_one (pe_cmpR op_ne (pv 8) (pv 9) (nomark _)))))))
      (pcs_seq rfl (op_eqD hr.units) (pcap_name 4 sc_is_step.nd rfl (.inl rfl) (pcap_name 10 sc_is_step.nd rfl (.inl rfl) (pcap_name 11 sc_is_step.nd rfl (.inl rfl) (pcap_name 8 sc_is_step.nd rfl (.inl rfl) (pcap_name 9 sc_is_step.nd rfl (.inl rfl) pcap_nil)))))
      (pss_one (ps_ret (pe_and (pe_call (ok_are_three_cells T) (hr.mono (by decide)) (by rfl) T.g_are_three_cells T.F_are_three_cells.kp T.b_are_three_cells .nil pass0 (pa_cons (pv 4) (pa_cons (pv 8) (pa_cons (pv 9) (pa_cons (pv 2) pa_nil))))) (pe_and (pe_call (ok_is_sign T) (hr.mono (by decide)) (by rfl) T.g_is_sign T.F_is_sign.kp T.b_is_sign .nil pass0 (pa_cons (pv 10) (pa_cons (pv 1) pa_nil))) (pe_one (pe_call (ok_is_table T) hr (by rfl) T.g_is_table T.F_is_table.kp T.b_is_table .nil pass0 (pa_cons (pv 11) (pa_cons (pv 1) pa_nil))))))))
      (pcs_else (rest := _) (pss_one (ps_ret pe_bl)))))))))), ?_⟩
    walk_at "start"
    cases hv with
    | tup h hs =>
      rename_i a xs es
      have hsh := hsh.of_tup
      walk_at "x"
      walk_at "is"
      walk_at "f"
      refine x_caseD (st_of h) hs hsh (by decide +kernel) (by decide) (fun y ys er h1 h2 h3 h4 => ?_) (fun c1 => ?_)
      · subst h2
        obtain ⟨x, k, fs, rfl⟩ : ∃ x k fs, er = [x, k, fs] := by
          match er, h3 with
          | [x, k, fs], _ => exact ⟨x, k, fs, rfl⟩
        rw [st4, if_pos rfl] at q
        cases h4 with
        | cons g1 h5 =>
          cases h5 with
          | cons g2 h6 =>
            cases h6 with
            | cons g3 h7 =>
              cases h7
              walk_at "xb"
              refine ⟨_, c, rfl, g1.odd, ?_⟩
              rw [g1.isB]
              refine x_blP ?_
              refine x_iteB (fun hb => ?_) (fun hb => ?_)
              · rw [hb, Bool.true_and] at q
                walk_at "x"
                refine ⟨_, (m : Int), rfl, g2.odd, ?_⟩
                rw [g2.isB]
                refine x_blP ?_
                refine x_iteB (fun hb2 => ?_) (fun hb2 => ?_)
                · rw [hb2, Bool.true_and] at q
                  obtain ⟨j, rfl, _, _⟩ := isBD_int hb
                  cases g1
                  walk_at "x"
                  exact ⟨d, _, fs, j, c, i, rfl, g3, hsh _ (by simp), q⟩
                · rw [hb2, Bool.false_and] at q
                  exact q H (Same.refl _)
              · rw [hb, Bool.false_and] at q
                exact q H (Same.refl _)
      refine x_caseD (st_of h) hs hsh (by decide +kernel) (by decide) (fun y ys er h1 h2 h3 h4 => ?_) (fun c2 => ?_)
      · subst h2
        obtain ⟨x, u, rfl⟩ : ∃ x u, er = [x, u] := by
          match er, h3 with
          | [x, u], _ => exact ⟨x, u, rfl⟩
        rw [st3, if_pos rfl] at q
        cases h4 with
        | cons g1 h5 =>
          cases h5 with
          | cons g2 h6 =>
            cases h6
            walk_at "xb"
            refine ⟨_, c, rfl, g1.odd, ?_⟩
            rw [g1.isB]
            refine x_blP ?_
            refine x_iteB (fun hb => ?_) (fun hb => ?_)
            · rw [hb, Bool.true_and] at q
              walk_at "x"
              refine ⟨_, (m : Int), rfl, g2.odd, ?_⟩
              rw [g2.isB]
              refine x_blP ?_
              refine x_iteB (fun hb2 => ?_) (fun hb2 => ?_)
              · rw [hb2, Bool.true_and] at q
                obtain ⟨j, rfl, _, _⟩ := isBD_int hb2
                cases g2
                walk_at "x"
                refine ⟨j, (m : Int), rfl, ?_⟩
                walk_at "x"
                exact q H (Same.refl _)
              · rw [hb2, Bool.false_and] at q
                exact q H (Same.refl _)
            · rw [hb, Bool.false_and] at q
              exact q H (Same.refl _)
      refine x_caseD (st_of h) hs hsh (by decide +kernel) (by decide) (fun y ys er h1 h2 h3 h4 => ?_) (fun c3 => ?_)
      · subst h2
        obtain ⟨x, u, rfl⟩ : ∃ x u, er = [x, u] := by
          match er, h3 with
          | [x, u], _ => exact ⟨x, u, rfl⟩
        rw [st3, if_neg (by decide), if_pos rfl] at q
        cases h4 with
        | cons g1 h5 =>
          cases h5 with
          | cons g2 h6 =>
            cases h6
            walk_at "xb"
            refine ⟨_, c, rfl, g1.odd, ?_⟩
            rw [g1.isB]
            refine x_blP ?_
            refine x_iteB (fun hb => ?_) (fun hb => ?_)
            · rw [hb, Bool.true_and] at q
              walk_at "x"
              refine ⟨_, c, rfl, g2.odd, ?_⟩
              rw [g2.isB]
              refine x_blP ?_
              refine x_iteB (fun hb2 => ?_) (fun hb2 => ?_)
              · rw [hb2, Bool.true_and] at q
                obtain ⟨j, rfl, _, _⟩ := isBD_int hb2
                obtain ⟨l, rfl, _, _⟩ := isBD_int hb
                cases g1
                cases g2
                walk_at "x"
                exact q H (Same.refl _)
              · rw [hb2, Bool.false_and] at q
                exact q H (Same.refl _)
            · rw [hb, Bool.false_and] at q
              exact q H (Same.refl _)
      refine x_caseD (st_of h) hs hsh (by decide +kernel) (by decide) (fun y ys er h1 h2 h3 h4 => ?_) (fun c4 => ?_)
      · subst h2
        obtain ⟨x, s, tb, y, z, rfl⟩ : ∃ x s tb y z, er = [x, s, tb, y, z] := by
          match er, h3 with
          | [x, s, tb, y, z], _ => exact ⟨x, s, tb, y, z, rfl⟩
        rw [st6, if_pos rfl] at q
        cases h4 with
        | cons g1 h5 =>
          cases h5 with
          | cons g2 h6 =>
            cases h6 with
            | cons g3 h7 =>
              cases h7 with
              | cons g4 h8 =>
                cases h8 with
                | cons g5 h9 =>
                  cases h9
                  walk_at "xb"
                  refine ⟨d, _, _, _, x, y, z, c, rfl, g1, g4, g5, fun H1 s1 => ?_⟩
                  refine x_blP ?_
                  refine x_iteB (fun hb => ?_) (fun hb => ?_)
                  · rw [hb, Bool.true_and] at q
                    walk_at "x"
                    refine ⟨d, _, s, (m : Int), rfl, DAt.same s1 _ g2, fun H2 s2 => ?_⟩
                    refine x_blP ?_
                    refine x_iteB (fun hb2 => ?_) (fun hb2 => ?_)
                    · rw [hb2, Bool.true_and] at q
                      walk_at "x"
                      exact ⟨d, _, tb, m, rfl, DAt.same (s1.trans s2) _ g3, (fun rs e => hwd _ rfl tb (by simp) rs e), fun H3 s3 => q H3 ((s1.trans s2).trans s3)⟩
                    · rw [hb2, Bool.false_and] at q
                      exact q H2 (s1.trans s2)
                  · rw [hb, Bool.false_and] at q
                    exact q H1 s1
      walk_at "x"
      rw [step_no c1 c2 c3 c4] at q
      exact q H (Same.refl _)
    | lst hd h hs =>
      walk_at "x"
      walk_at "is"
      walk_at "t"
      exact q H (Same.refl _)
    | int i =>
      walk_at "x"
      walk_at "is"
      walk_at "t"
      exact q H (Same.refl _)
    | bl b =>
      walk_at "x"
      walk_at "is"
      walk_at "t"
      exact q H (Same.refl _)
    | non =>
      walk_at "x"
      walk_at "is"
      walk_at "t"
      exact q H (Same.refl _)
    | str z =>
      walk_at "x"
      walk_at "is"
      walk_at "t"
      exact q H (Same.refl _)


end
end Br
namespace Br
open PySem PySem.Spec PyProof.Rows L2
local macro_rules | `(tactic| walk_at "x1") => `(tactic| (with_reducible first
  | refine Br.x_seq ?_ | refine Br.x_set ?_ | refine Br.x_asg ?_ | refine Br.x_next ?_ | refine Br.x_ret ?_ | refine Br.x_retN ?_ | refine Br.x_drop ?_ | refine Br.x_if ?_ | refine Br.x_brk ?_ | refine Br.x_cont ?_
  | refine Br.x_c ?_ | refine Br.x_op ?_ | refine Br.x_un ?_ | refine Br.x_I0 ?_ | refine Br.x_U ?_ | refine Br.x_EqI ?_ | refine Br.x_NeI ?_ | refine Br.x_EqB ?_ | refine Br.x_iN ?_ | refine Br.x_int1 ?_ | refine Br.x_min2 ?_ | refine Br.x_max2 ?_ | refine Br.x_nN ?_ | refine Br.x_ifE ?_
  | refine Br.x_test (b := ()) ?_ | refine Br.x_tB ?_ | refine Br.x_bl ?_ | refine Br.x_and ?_ | refine Br.x_or ?_ | refine Br.x_not ?_ | refine Br.x_andV ?_ | refine Br.x_orV ?_ | refine Br.x_notV ?_ | refine Br.x_blP ?_
  | refine Br.x_nil ?_ | refine Br.x_cons ?_ | refine Br.x_call ?_ | refine Br.x_CB ?_ | refine Br.x_BM ?_ | refine Br.x_tup ?_ | refine Br.x_lst ?_ | refine Br.x_chain ?_ | refine Br.x_par ?_ | refine Br.x_gSub ?_ | refine Br.x_gName ?_ | refine Br.x_fld ?_ | refine Br.x_fldS ?_ | refine Br.x_match ?_ | refine Br.x_else ?_ | refine Br.x_noCase ?_))
local macro_rules | `(tactic| walk_at "xv") => `(tactic| ((with_reducible refine' Br.x_var ?hvar ?_); (case hvar => rfl)))
local macro_rules | `(tactic| walk_at "xd") => `(tactic| (dsimp only [List.set_cons_zero, List.set_cons_succ, List.cons_append, List.nil_append, List.append_nil]))
local macro_rules | `(tactic| walk_at "xi") => `(tactic| ((with_reducible refine Br.x_I ?hside ?_); (case hside => first | exact Br.mul_r (by decide) (by decide) | exact Br.mul_l (by decide) (by decide) | exact Br.mul_l (by omega) (by omega) | exact Br.mul_r (by omega) (by omega) | (show (0 : Int) < _; first | decide | omega) | exact ⟨by decide, by decide⟩ | exact ⟨by omega, by omega⟩ | exact ⟨by decide, by decide, by decide⟩)))
local macro_rules | `(tactic| walk_at "x") => `(tactic| (repeat (first | walk_at "x1" | walk_at "xv" | walk_at "xi" | walk_at "xd")))
local macro_rules | `(tactic| walk_at "start") => `(tactic| (simp only [L2.start, List.map_cons, List.map_nil, List.length_cons, List.length_nil, Nat.reduceAdd, Nat.reduceSub, List.replicate, List.cons_append, List.nil_append, List.append_nil]))
local macro_rules | `(tactic| walk_at "isi") => `(tactic| first
  | refine Br.x_isi (b := true) (.base (.int _)) (by decide +kernel) ?_ | refine Br.x_isi (b := false) (.base (.int _)) (by decide +kernel) ?_
  | refine Br.x_isi (b := true) (.base (.bl _)) (by decide +kernel) ?_ | refine Br.x_isi (b := false) (.base (.bl _)) (by decide +kernel) ?_
  | refine Br.x_isi (b := false) (.base .non) (by decide +kernel) ?_
  | refine Br.x_isi (b := true) (.base (.str _)) (by decide +kernel) ?_ | refine Br.x_isi (b := false) (.base (.str _)) (by decide +kernel) ?_
  | refine Br.x_isi (b := true) (.base (.tup (by assumption))) (by decide +kernel) ?_ | refine Br.x_isi (b := false) (.base (.tup (by assumption))) (by decide +kernel) ?_
  | refine Br.x_isi (b := true) (.base (.lst (by assumption))) (by decide +kernel) ?_ | refine Br.x_isi (b := false) (.base (.lst (by assumption))) (by decide +kernel) ?_)
local macro_rules | `(tactic| walk_at "f") => `(tactic| (refine L2.iteF ?_; walk_at "x"))
local macro_rules | `(tactic| walk_at "t") => `(tactic| (refine L2.iteT ?_; walk_at "x"))
local macro_rules | `(tactic| walk_at "is") => `(tactic| (walk_at "isi"; walk_at "x"))
local macro_rules | `(tactic| walk_at "xb") => `(tactic| (simp only [Br.bindS, List.set_cons_zero, List.set_cons_succ]; walk_at "x"))

section
variable {P : Program} {w : World} {K : PySem.W.Frag} {mg : Str → Option Value} {base : Heap}

/-! ### primes -/
def PrimeI (n : Int) : Prop := 2 ≤ n ∧ ∀ d : Int, 2 ≤ d → d * d ≤ n → n % d ≠ 0
theorem sq_lt {a b : Int} (ha : 0 ≤ a) (h : a < b) : a * a < b * b := by
  have h1 : a * a ≤ a * b := Int.mul_le_mul_of_nonneg_left (Int.le_of_lt h) ha
  have h2 : a * b < b * b := Int.mul_lt_mul_of_pos_right h (by omega)
  omega
theorem le_of_sq {a b : Int} (hb : 0 ≤ b) (h : a * a ≤ b * b) : a ≤ b := by
  by_cases h1 : a ≤ b
  · exact h1
  · have := sq_lt hb (show b < a by omega)
    omega
theorem even_dvd {n d : Int} (hd : d % 2 = 0) (h : n % d = 0) : n % 2 = 0 := by
  obtain ⟨q, hq⟩ := Int.dvd_of_emod_eq_zero h
  obtain ⟨r, hr⟩ := Int.dvd_of_emod_eq_zero hd
  rw [hq, hr, Int.mul_assoc]
  exact Int.mul_emod_right 2 _

def sp_is_prime (K : PySem.W.Frag) : Sp := fun vs H Q _ => ∃ n : Int, vs = [.int n] ∧ 0 ≤ n ∧ n < 2000000000 ∧ ∀ b : Bool, (b = true ↔ PrimeI n) → Q (.bl b) H
theorem ok_is_prime (T : Txt K mg) : FnOk P w K mg base CX0 1 T.a_is_prime T.fd_is_prime ["n"] (sp_is_prime K) := by
  refine T.F_is_prime.ok sc_is_prime (fun vs H Q E h => ?_) (fun cdv A outer s H vs Q E hr h => ?_)
  · obtain ⟨n, rfl, _⟩ := h
    rfl
  · obtain ⟨n, rfl, h0, h1, q⟩ := h
    refine ⟨_, (pss_cons (ps_if (pt_cmpR op_lt (pv 0) pe_int (nomark _))
      (pss_one (ps_ret (pe_cmpR op_gt (pv 0) pe_int (nomark _))))
      pss_nil)
      (pss_cons (ps_if (pt_cmpR op_eq (pe_op op_mod (pv 0) pe_int) pe_int (nomark _))
      (pss_one (ps_ret pe_bl))
      pss_nil)
      (pss_cons (ps_for PassesOwn.never rfl (pi_range3 (by rfl) T.m_range (pa_cons pe_int (pa_cons (pe_op op_add (pe_callBfun cr_isqrt (by rfl) T.m_isqrt (pa_cons (pv 0) pa_nil)) pe_int) (pa_cons pe_int pa_nil)))) (pg_name (i := 1) sc_is_prime.nd rfl (Or.inl rfl))
      (pss_one (ps_if (pt_cmpR op_eq (pe_op op_mod (pv 0) (pv 1)) pe_int (nomark _))
      (pss_one (ps_ret pe_bl))
      pss_nil)))
      (pss_one (ps_ret pe_bl))))), ?_⟩
    walk_at "start"
    walk_at "x"
    refine x_ite (fun hc => ?_) (fun hc => ?_)
    · walk_at "x"
      refine q _ ⟨fun e => ⟨by have := of_decide_eq_true e; omega, fun d h2 hd => ?_⟩, fun e => decide_eq_true (by have := e.1; omega)⟩
      have : 2 * 2 ≤ d * d := Int.mul_le_mul h2 h2 (by decide) (by omega)
      omega
    · walk_at "x"
      refine x_ite (fun hc2 => ?_) (fun hc2 => ?_)
      · walk_at "x"
        exact q _ ⟨fun e => (by cases e), fun e => absurd hc2 (e.2 2 (by decide) (by omega))⟩
      · walk_at "x"
        have hn2 : ∀ d : Int, d % 2 = 0 → n % d ≠ 0 := fun d hd e => hc2 (even_dvd hd e)
        obtain ⟨r, er, hr0, hr1, hr2⟩ := isq_spec h0
        have hr3 : r < 44722 := by
          by_cases hh : r < 44722
          · exact hh
          · have : (44722 : Int) * 44722 ≤ r * r := Int.mul_le_mul (by omega) (by omega) (by decide) (by omega)
            omega
        refine x_forR3 3 (r + 1) 2 (fun i σ' H' => ∃ v, σ' = [some (.int n), v] ∧ H' = H ∧ ∀ d : Int, 2 ≤ d → d < 3 + (i : Int) * 2 → n % d ≠ 0) (fun R k => k) (fun R k => by walk_at "x"; exact x_isqrt0 h0 (by omega) er (by walk_at "x"; exact k)) (fun R k => k) (by decide) (by decide) (by decide) (by decide) (by omega) (by omega) ?_ ?_ ?_
        · exact ⟨none, rfl, rfl, fun d h2 h3 => by
            have e : d = 2 := by omega
            rw [e]; exact hc2⟩
        · rintro i σ' H' hi ⟨v, rfl, rfl, hI⟩
          walk_at "x"
          refine x_ite (fun hd => ?_) (fun hd => ?_)
          · walk_at "x"
            refine q _ ⟨fun e => (by cases e), fun e => absurd hd (e.2 _ (by omega) ?_)⟩
            have : (3 + (i : Int) * 2) * (3 + (i : Int) * 2) ≤ r * r := Int.mul_le_mul (by omega) (by omega) (by omega) (by omega)
            omega
          · walk_at "x"
            refine ⟨_, rfl, rfl, fun d h2 h3 => ?_⟩
            by_cases h4 : d < 3 + (i : Int) * 2
            · exact hI d h2 h4
            · by_cases h5 : d = 3 + (i : Int) * 2
              · rw [h5]; exact hd
              · exact hn2 d (by omega)
        · rintro i σ' H' hi ⟨v, rfl, rfl, hI⟩
          walk_at "x"
          refine q _ ⟨fun _ => ⟨by omega, fun d h2 h3 => hI d h2 ?_⟩, fun _ => rfl⟩
          have : d < r + 1 := by
            by_cases hh : d < r + 1
            · exact hh
            · have : (r + 1) * (r + 1) ≤ d * d := Int.mul_le_mul (by omega) (by omega) (by omega) (by omega)
              omega
          omega




def sp_is_modulus (K : PySem.W.Frag) : Sp := fun vs H Q _ => ∃ (v : V), vs = [v] ∧ Odd H v ∧ Q (.bl (isB v 1000000001 && !isB v 2)) H
theorem ok_is_modulus (T : Txt K mg) : FnOk P w K mg base CX0 2 T.a_is_modulus T.fd_is_modulus ["value"] (sp_is_modulus K) := by
  refine T.F_is_modulus.ok sc_is_modulus (fun vs H Q E h => ?_) (fun cdv A outer s H vs Q E hr h => ?_)
  · obtain ⟨v, rfl, _⟩ := h
    rfl
  · obtain ⟨v, rfl, hv, q⟩ := h
    refine ⟨_, (pss_one (ps_ret (pe_and (pe_call (ok_is_below T) hr (by rfl) T.g_is_below T.F_is_below.kp T.b_is_below .nil pass0 (pa_cons (pv 0) (pa_cons (pe_op op_add (pe_glob (v := .int 1000000000) (by rfl) T.c_GREATEST_MODULUS ⟨_, rfl⟩) pe_int) pa_nil))) (pe_one (pe_cmpR op_ge (pv 0) pe_int (nomark _)))))), ?_⟩
    walk_at "start"
    walk_at "x"
    refine ⟨v, _, rfl, hv, ?_⟩
    walk_at "x"
    refine x_iteB (fun hb => ?_) (fun hb => ?_)
    · cases hv with
      | int i =>
        have h0 : 0 ≤ i := by
          by_cases h0 : 0 ≤ i
          · exact h0
          · exfalso
            have e : (decide (0 ≤ i) && decide (i < 1000000000 + 1)) = true := hb
            rw [decide_eq_false h0] at e
            cases e
        walk_at "x"
        have e : (isB (.int i) 1000000001 && !isB (.int i) 2) = decide (2 ≤ i) := by
          rw [show isB (.int i) 1000000001 = true from hb]
          show (true && !(decide (0 ≤ i) && decide (i < 2))) = _
          rw [decide_eq_true h0]
          by_cases h2 : 2 ≤ i
          · rw [decide_eq_true h2, decide_eq_false (show ¬ i < 2 by omega)]; rfl
          · rw [decide_eq_false h2, decide_eq_true (show i < 2 by omega)]; rfl
        rw [← e]
        exact q
      | _ => cases hb
    · rw [show isB v 1000000001 = false from hb] at q
      exact q


open Br.F
theorem prime_I {m : Nat} (h : IsPrime m) : PrimeI (m : Int) := by
  refine ⟨by have := h.1; omega, fun d h2 hd he => ?_⟩
  obtain ⟨n, rfl⟩ : ∃ n : Nat, d = (n : Int) := ⟨d.toNat, by omega⟩
  have hdv : n ∣ m := Int.ofNat_dvd.mp (Int.dvd_of_emod_eq_zero he)
  rcases h.2 n hdv with e | e
  · omega
  · subst e
    have : (2 : Int) * n ≤ n * n := Int.mul_le_mul_of_nonneg_right h2 (by omega)
    omega
theorem prime_N {m : Nat} (h : PrimeI (m : Int)) : IsPrime m := by
  obtain ⟨h2, hd⟩ := h
  have h2 : 2 ≤ m := by omega
  have no : ∀ d : Nat, 2 ≤ d → d * d ≤ m → d ∣ m → False := fun d d2 dd dv => by
    refine hd (d : Int) (by omega) (by rw [← Int.natCast_mul]; omega) ?_
    exact Int.emod_eq_zero_of_dvd (Int.ofNat_dvd.mpr dv)
  refine ⟨h2, fun d dv => ?_⟩
  obtain ⟨e, he⟩ := id dv
  have d0 : d ≠ 0 := fun z => by rw [z, Nat.zero_mul] at he; omega
  have e0 : e ≠ 0 := fun z => by rw [z, Nat.mul_zero] at he; omega
  by_cases d1 : d = 1
  · exact .inl d1
  by_cases e1 : e = 1
  · exact .inr (by rw [e1, Nat.mul_one] at he; exact he.symm)
  rcases Nat.le_total d e with h | h
  · exact (no d (by omega) (by rw [he]; exact Nat.mul_le_mul_left _ h) dv).elim
  · exact (no e (by omega) (by rw [he]; exact Nat.mul_le_mul_right _ h) ⟨d, by rw [he, Nat.mul_comm]⟩).elim
theorem isB_get {v : V} {b : Int} (h : isB v b = true) : ∃ j : Int, v = .int j ∧ 0 ≤ j ∧ j < b := by
  cases v with
  | int j =>
    have h : (decide (0 ≤ j) && decide (j < b)) = true := h
    rw [Bool.and_eq_true, decide_eq_true_iff, decide_eq_true_iff] at h
    exact ⟨j, rfl, h.1, h.2⟩
  | _ => cases h

/-- the three numbers are those of a program -/
def SizesOk (vm vc vi : V) (m c i : Nat) : Prop := vm = .int (m : Int) ∧ vc = .int (c : Int) ∧ vi = .int (i : Int) ∧ 2 ≤ m ∧ m ≤ 1000000000 ∧ 1 ≤ c ∧ c ≤ 60 ∧ i ≤ 60
def sp_check_sizes (CS : Addr) (K : PySem.W.Frag) : Sp := fun vs H Q E => ∃ (vm vc vi : V), vs = [vm, vc, vi] ∧ Odd H vm ∧ Odd H vc ∧ Odd H vi ∧ ((¬ ∃ m c i : Nat, SizesOk vm vc vi m c i) → E (.ref CS) none H) ∧ (∀ m c i : Nat, SizesOk vm vc vi m c i → Q .non H)
theorem ok_check_sizes (T : Txt K mg) : FnOk P w K mg base (L2.CX P w) 3 T.a_check_sizes T.fd_check_sizes ["modulus", "cells", "inputs"] (sp_check_sizes T.E_BadStep K) := by
  refine T.F_check_sizes.okX sc_check_sizes (fun vs H Q E h => ?_) (fun cdv A outer s H vs Q E hr h => ?_)
  · obtain ⟨vm, vc, vi, rfl, _⟩ := h
    rfl
  · obtain ⟨vm, vc, vi, rfl, hm, hc, hi, qE, q⟩ := h
    refine ⟨_, (pss_cons (ps_if (pt_not (pt_val (pe_call (ok_is_modulus T) hr (by rfl) T.g_is_modulus T.F_is_modulus.kp T.b_is_modulus .nil pass0 (pa_cons (pv 0) pa_nil))))
      (pss_one (ps_raise rfl (takes_of rfl rfl rfl rfl) (pmk_own PySem.F.excBase_ValueError T.xE_BadStep T.gE_BadStep T.kE_BadStep (raises_own T.bE_BadStep T.tE_BadStep) (by exact rfl))))
      pss_nil)
      (pss_cons (ps_if (PW.pt (pw_or (pt_not (pt_val (pe_call (ok_is_below T) (hr.mono (by decide)) (by rfl) T.g_is_below T.F_is_below.kp T.b_is_below .nil pass0 (pa_cons (pv 1) (pa_cons (pe_op op_add (pe_glob (v := .int 60) (by rfl) T.c_MOST_CELLS ⟨_, rfl⟩) pe_int) pa_nil))))) (pw_or1 (pt_cmpR op_eq (pv 1) pe_int (nomark _)))))
      (pss_one (ps_raise rfl (takes_of rfl rfl rfl rfl) (pmk_own PySem.F.excBase_ValueError T.xE_BadStep T.gE_BadStep T.kE_BadStep (raises_own T.bE_BadStep T.tE_BadStep) (by exact rfl))))
      pss_nil)
      (pss_one (ps_if (pt_not (pt_val (pe_call (ok_is_below T) (hr.mono (by decide)) (by rfl) T.g_is_below T.F_is_below.kp T.b_is_below .nil pass0 (pa_cons (pv 2) (pa_cons (pe_op op_add (pe_glob (v := .int 60) (by rfl) T.c_MOST_INPUTS ⟨_, rfl⟩) pe_int) pa_nil)))))
      (pss_one (ps_raise rfl (takes_of rfl rfl rfl rfl) (pmk_own PySem.F.excBase_ValueError T.xE_BadStep T.gE_BadStep T.kE_BadStep (raises_own T.bE_BadStep T.tE_BadStep) (by exact rfl))))
      pss_nil)))), ?_⟩
    walk_at "start"
    walk_at "x"
    refine ⟨vm, rfl, hm, ?_⟩
    walk_at "x"
    refine x_iteBN (fun h0 => ?_) (fun h0 => ?_)
    · walk_at "x"
      refine qE fun ⟨m, c, i, h1, _, _, m2, m9, _⟩ => ?_
      subst h1
      have e : (isB (.int (m : Int)) 1000000001 && !isB (.int (m : Int)) 2) = true := by
        rw [isB_int (by omega) (by omega)]
        show (true && !(decide (0 ≤ (m : Int)) && decide ((m : Int) < 2))) = true
        rw [decide_eq_false (show ¬ (m : Int) < 2 by omega), Bool.and_false]; rfl
      rw [e] at h0
      cases h0
    rw [Bool.and_eq_true] at h0
    obtain ⟨j, rfl, j0, j1⟩ := isB_get h0.1
    have j2 : 2 ≤ j := by
      have h2 : (!(decide (0 ≤ j) && decide (j < 2))) = true := h0.2
      rw [decide_eq_true j0, Bool.true_and, Bool.not_eq_true', decide_eq_false_iff_not] at h2
      omega
    obtain ⟨m, rfl⟩ : ∃ m : Nat, j = (m : Int) := ⟨j.toNat, by omega⟩
    walk_at "x"
    refine ⟨vc, 61, rfl, hc, ?_⟩
    walk_at "x"
    refine x_iteBN (fun h1 => ?_) (fun h1 => ?_)
    · walk_at "t"
      refine qE fun ⟨m', c, i, _, h2, _, _, _, c1, c60, _⟩ => ?_
      subst h2
      rw [isB_int (by omega) (by omega)] at h1
      cases h1
    obtain ⟨j, rfl, k0, k1⟩ := isB_get h1
    obtain ⟨c, rfl⟩ : ∃ c : Nat, j = (c : Int) := ⟨j.toNat, by omega⟩
    walk_at "x"
    refine x_ite (fun h2 => ?_) (fun h2 => ?_)
    · walk_at "x"
      refine qE fun ⟨m', c', i, _, h3, _, _, _, c1, c60, _⟩ => ?_
      injection h3 with h3
      omega
    walk_at "x"
    refine ⟨vi, 61, rfl, hi, ?_⟩
    walk_at "x"
    refine x_iteBN (fun h3 => ?_) (fun h3 => ?_)
    · walk_at "x"
      refine qE fun ⟨m', c', i, _, _, h4, _, _, _, _, i60⟩ => ?_
      subst h4
      rw [isB_int (by omega) (by omega)] at h3
      cases h3
    obtain ⟨j, rfl, n0, n1⟩ := isB_get h3
    obtain ⟨i, rfl⟩ : ∃ i : Nat, j = (i : Int) := ⟨j.toNat, by omega⟩
    walk_at "x"
    exact q m c i ⟨rfl, rfl, rfl, by omega, by omega, by omega, by omega, by omega⟩


def tabW : PyData → Bool
  | .tuple (.str w :: _) => decide (w = "table")
  | _ => false
def StepsD (m c i : Nat) (es : List PyData) : Prop := (∀ x, x ∈ es → stepD (m : Int) (c : Int) (i : Int) x = true) ∧ ((∃ x, x ∈ es ∧ tabW x = true) → IsPrime m)
theorem step_head {m c i : Int} {e : PyData} (h : stepD m c i e = true) : ∃ w r, e = .tuple (.str w :: r) := by
  unfold stepD at h
  split at h
  · exact ⟨_, _, rfl⟩
  · exact ⟨_, _, rfl⟩
  · exact ⟨_, _, rfl⟩
  · cases h
def sp_check_steps (CS : Addr) (K : PySem.W.Frag) : Sp := fun vs H Q E => ∃ (d : Addr) (v : V) (e : PyData) (m c i : Nat), vs = [v, .int (m : Int), .int (c : Int), .int (i : Int)] ∧ DAt d H v e ∧ 2 ≤ m ∧ m ≤ 1000000000 ∧ (∀ es, e = .list es → es.length ≤ 20000 ∧ ∀ x, x ∈ es → Sh x ∧ WdE x) ∧
  ((¬ ∃ es, e = .list es ∧ StepsD m c i es) → ∀ H', Same H H' → E (.ref CS) none H') ∧ ((∃ es, e = .list es ∧ StepsD m c i es) → ∀ H', Same H H' → Q .non H')
theorem ok_check_steps (T : Txt K mg) : FnOk P w K mg base (L2.CX P w) 5 T.a_check_steps T.fd_check_steps ["steps", "modulus", "cells", "inputs"] (sp_check_steps T.E_BadStep K) := by
  refine T.F_check_steps.okX sc_check_steps (fun vs H Q E h => ?_) (fun cdv A outer s H vs Q E hr h => ?_)
  · obtain ⟨d, v, e, m, c, i, rfl, _⟩ := h
    rfl
  · obtain ⟨d, v, e, m, c, i, rfl, hv, m2, m9, hsz, qE, q⟩ := h
    refine ⟨_, (pss_cons (ps_if (PW.pt (pw_or (pt_not (pt_val (pe_callB (id := "isinstance") (r := rIsi K) call_isi (by rfl) T.m_isinstance (by decide +kernel) (pa_cons (pv 0) (pa_cons (pe_bltn (v := .ty "list") (by rfl) T.m_list (by decide +kernel) rfl) pa_nil))))) (pw_or1 (pt_cmpR op_gt (pe_callB (id := "len") (r := rLen K) cr_len (by rfl) T.m_len PySem.boot_len (pa_cons (pv 0) pa_nil)) (pe_glob (v := .int 20000) (by rfl) T.c_MOST_STEPS ⟨_, rfl⟩) (nomark _)))))
      (pss_one (ps_raise rfl (takes_of rfl rfl rfl rfl) (SkE.pmk_own1 PySem.F.excBase_ValueError T.xE_BadStep T.gE_BadStep T.kE_BadStep (raises_own T.bE_BadStep T.tE_BadStep) (by exact rfl) (pe_joined (PJ.cons pe_str (PJ.cons (pe_fmt (pe_glob (v := .int 20000) (by rfl) T.c_MOST_STEPS ⟨_, rfl⟩)) (PJ.cons pe_str PJ.nil)))))))
      pss_nil)
      (pss_cons (ps_for (passes_of rfl) rfl (pi_enum (by rfl) T.m_enumerate (pa_cons (pv 0) pa_nil)) (pg_tup rfl (pgs_cons (pg_name (i := 4) sc_check_steps.nd rfl (Or.inl rfl)) (pgs_cons (pg_name (i := 5) sc_check_steps.nd rfl (Or.inl rfl)) pgs_nil)))
      (pss_one (ps_if (pt_not (pt_val (pe_call (ok_is_step T) hr (by rfl) T.g_is_step T.F_is_step.kp T.b_is_step .nil pass0 (pa_cons (pv 5) (pa_cons (pv 1) (pa_cons (pv 2) (pa_cons (pv 3) pa_nil)))))))
      (pss_one (ps_raise rfl (takes_of rfl rfl rfl rfl) (SkE.pmk_own1 PySem.F.excBase_ValueError T.xE_BadStep T.gE_BadStep T.kE_BadStep (raises_own T.bE_BadStep T.tE_BadStep) (by exact rfl) (pe_joined (PJ.cons pe_str (PJ.cons (pe_fmt (pv 4)) (PJ.cons pe_str PJ.nil)))))))
      pss_nil)))
      (pss_one (ps_if (PW.pt (pw_and (pt_val (pe_callB (id := "any") (r := rAny K) (cr_any rfl) (by rfl) T.m_any (by decide +kernel) (pa_cons (pe_lc (own := [("step", 5)]) (g := gName 5) (tt := tYes) rfl sc_check_steps.nd (pi_list (pv 0)) (blkOk_by (N := N_check_steps) (sc := defScope s_check_steps) (by decide +kernel)) (fun _ _ _ _ _ => (pg_name (i := 5) sc_check_steps.nd rfl (Or.inl rfl))) (fun _ _ _ _ _ => pts_nil) (fun _ _ _ _ _ => (pe_cmpR op_eq (pe_ix (r := rIxT K) ix_tup (pv 5) pe_int (fun _ _ => rfl)) pe_str (nomark _)))) pa_nil))) (pw_and1 (pt_not (pt_val (pe_call (ok_is_prime T) (hr.mono (by decide)) (by rfl) T.g_is_prime T.F_is_prime.kp T.b_is_prime .nil pass0 (pa_cons (pv 1) pa_nil)))))))
      (pss_one (ps_raise rfl (takes_of rfl rfl rfl rfl) (pmk_own PySem.F.excBase_ValueError T.xE_BadStep T.gE_BadStep T.kE_BadStep (raises_own T.bE_BadStep T.tE_BadStep) (by exact rfl))))
      pss_nil)))), ?_⟩
    walk_at "start"
    cases hv with
    | lst hd h hs =>
      rename_i L xs es
      obtain ⟨hl2, hsh⟩ := hsz es rfl
      have hlen := hs.len
      walk_at "x"
      walk_at "is"
      walk_at "f"
      refine x_len (sq_of h) ?_
      walk_at "x"
      refine x_ite (fun hlong => ?_) (fun hlong => ?_)
      · omega
      walk_at "x"
      refine x_forI (J := Ite K L) (n := xs.length) (G := fun H => SqL K H L xs) (fun R r => by unfold iEnum; walk_at "x"; exact ⟨L, _, rfl, sq_of h, r⟩) walk_enum (fun k σ' H' => Same H H' ∧ (∀ j x, j < k → es[j]? = some x → stepD (m : Int) (c : Int) (i : Int) x = true) ∧ ∃ v4 v5, σ' = [some (.ref L), some (.int (m : Int)), some (.int (c : Int)), some (.int (i : Int)), v4, v5])
        ⟨Same.refl _, fun j x hj => absurd hj (Nat.not_lt_zero j), _, _, rfl⟩ (fun k σ' H' _ z => sq_of (z.1 _ _ h)) ?_ ?_
      · rintro k _ σ' H' H2 hk ⟨hs', hall, v4, v5, rfl⟩ ⟨o, x, y, rfl, ho, rfl, gx, gy⟩
        cases gx
        obtain ⟨f, hf, hyf⟩ := hs.get gy
        have s3 : Same H (upd H' o (.tup [.int (k : Int), y])) := sput hs' (sfree hs' ho)
        have hyf := DAt.same s3 f hyf
        refine x_gTup2 (st_of upd_same) ?_
        walk_at "x"
        have hfm := List.mem_of_getElem? hf
        refine ⟨d, y, f, m, (c : Int), (i : Int), rfl, hyf, (hsh f hfm).1, (hsh f hfm).2, fun H4 s4 => ?_⟩
        walk_at "x"
        refine x_iteBN (fun h0 => ?_) (fun h0 => ?_)
        · walk_at "x"
          refine ⟨_, rfl, by show (Str.empty ++ _).length ≤ _; rw [Str.length_append]; exact Nat.le_of_ble_eq_true rfl, ?_⟩
          refine x_fmt ?_
          walk_at "x"
          refine .inr ⟨_, rfl, log_nat (n := k) (by omega), ⟨_, rfl, ?_, _, rfl, ?_, qE (fun ⟨es', e1, z⟩ => ?_) H4 (s3.trans s4)⟩⟩
          · rw [Str.length_append]
            have := len_nat (n := k) (by omega)
            exact Nat.le_trans (Nat.add_le_add_left this _) (Nat.le_of_ble_eq_true rfl)
          · rw [Str.length_append, Str.length_append]
            have := len_nat (n := k) (by omega)
            exact Nat.le_trans (Nat.add_le_add_right (Nat.add_le_add_left this _) _) (Nat.le_of_ble_eq_true rfl)
          · cases e1
            have := z.1 f hfm
            rw [h0] at this
            cases this
        · walk_at "x"
          refine ⟨s3.trans s4, fun j x hj hx => ?_, _, _, rfl⟩
          by_cases e : j = k
          · subst e
            rw [hf] at hx
            cases hx
            exact h0
          · exact hall j x (by omega) hx
      · rintro σ' H' ⟨hs', hall, v4, v5, rfl⟩
        have hall : ∀ x, x ∈ es → stepD (m : Int) (c : Int) (i : Int) x = true := fun x hx => by
          obtain ⟨j, hj⟩ := List.getElem?_of_mem hx
          exact hall j x (by have := (List.getElem?_eq_some_iff.mp hj).1; omega) hj
        have hL' := hs' _ _ h
        walk_at "x"
        refine x_lcB (xs := xs) (fun k => tabW (es.getD k .none)) (J := Itl K L) (G := fun H => SqL K H L xs) (fun R r => ⟨_, rfl, L, rfl, ⟨_, sq_of hL'⟩, r⟩) walk_list (by omega) (fun H2 s => sq_of (s _ _ hL')) (fun x => rfl) ?_ ?_
        · intro k x H2 s2 hx R hR
          obtain ⟨f, hf, hxf⟩ := hs.get hx
          rw [getDD hf] at hR
          have hxf := DAt.same (hs'.trans s2) f hxf
          obtain ⟨w, r, rfl⟩ := step_head (hall f (List.mem_of_getElem? hf))
          cases hxf with
          | tup hb hbs =>
            cases hbs with
            | cons g1 g2 =>
              cases g1
              walk_at "x"
              refine x_ixT (v := .str w) (st_of hb) (atI_nat (j := 0) rfl) ?_
              walk_at "x"
              refine x_EqS ?_
              exact hR H2 (Same.refl _)
        · intro p H2 hp s2 hP
          walk_at "x"
          refine x_any hP ?_
          walk_at "x"
          rw [hlen]
          have ea : ((List.range es.length).map fun k => tabW (es.getD k .none)).any id = es.any tabW := by
            rw [Bool.eq_iff_iff, List.any_eq_true, List.any_eq_true]
            constructor
            · rintro ⟨b, hb, hb1⟩
              obtain ⟨k, hk, rfl⟩ := List.mem_map.mp hb
              have hk := List.mem_range.mp hk
              have e : es.getD k .none = es[k] := getDD (List.getElem?_eq_getElem hk)
              refine ⟨es[k], List.getElem_mem hk, ?_⟩
              have hb1 : tabW (es.getD k .none) = true := hb1
              rw [e] at hb1
              exact hb1
            · rintro ⟨x, hx, hx1⟩
              obtain ⟨k, hk⟩ := List.getElem?_of_mem hx
              refine ⟨tabW (es.getD k .none), List.mem_map.mpr ⟨k, List.mem_range.mpr (List.getElem?_eq_some_iff.mp hk).1, rfl⟩, ?_⟩
              rw [getDD hk]
              exact hx1
          rw [ea]
          refine x_iteB (fun hb => ?_) (fun hb => ?_)
          · obtain ⟨x, hx, hx1⟩ := List.any_eq_true.mp hb
            walk_at "x"
            refine ⟨_, rfl, by omega, by omega, fun b hbp => ?_⟩
            walk_at "x"
            refine x_iteBN (fun h1 => ?_) (fun h1 => ?_)
            · subst h1
              walk_at "x"
              refine qE (fun ⟨es', e1, z⟩ => ?_) H2 (hs'.trans s2)
              cases e1
              have := hbp.mpr (prime_I (z.2 ⟨x, hx, hx1⟩))
              cases this
            · walk_at "x"
              exact q ⟨es, rfl, hall, fun _ => prime_N (hbp.mp h1)⟩ H2 (hs'.trans s2)
          · walk_at "f"
            refine q ⟨es, rfl, hall, fun ⟨x, hx, hx1⟩ => ?_⟩ H2 (hs'.trans s2)
            have : es.any tabW = true := List.any_eq_true.mpr ⟨x, hx, hx1⟩
            rw [hb] at this
            cases this
    | tup h hs =>
      walk_at "x"
      walk_at "is"
      walk_at "t"
      refine ⟨_, rfl, by show (Str.empty ++ _).length ≤ _; rw [Str.length_append]; exact Nat.le_of_ble_eq_true rfl, ?_⟩
      refine x_fmt ?_
      walk_at "x"
      exact .inr ⟨_, rfl, log_nat (n := 20000) (by decide), ⟨_, rfl, Nat.le_of_ble_eq_true rfl, _, rfl, Nat.le_of_ble_eq_true rfl, qE (fun ⟨es', e1, z⟩ => by cases e1) H (Same.refl _)⟩⟩
    | int i =>
      walk_at "x"
      walk_at "is"
      walk_at "t"
      refine ⟨_, rfl, by show (Str.empty ++ _).length ≤ _; rw [Str.length_append]; exact Nat.le_of_ble_eq_true rfl, ?_⟩
      refine x_fmt ?_
      walk_at "x"
      exact .inr ⟨_, rfl, log_nat (n := 20000) (by decide), ⟨_, rfl, Nat.le_of_ble_eq_true rfl, _, rfl, Nat.le_of_ble_eq_true rfl, qE (fun ⟨es', e1, z⟩ => by cases e1) H (Same.refl _)⟩⟩
    | bl b =>
      walk_at "x"
      walk_at "is"
      walk_at "t"
      refine ⟨_, rfl, by show (Str.empty ++ _).length ≤ _; rw [Str.length_append]; exact Nat.le_of_ble_eq_true rfl, ?_⟩
      refine x_fmt ?_
      walk_at "x"
      exact .inr ⟨_, rfl, log_nat (n := 20000) (by decide), ⟨_, rfl, Nat.le_of_ble_eq_true rfl, _, rfl, Nat.le_of_ble_eq_true rfl, qE (fun ⟨es', e1, z⟩ => by cases e1) H (Same.refl _)⟩⟩
    | non =>
      walk_at "x"
      walk_at "is"
      walk_at "t"
      refine ⟨_, rfl, by show (Str.empty ++ _).length ≤ _; rw [Str.length_append]; exact Nat.le_of_ble_eq_true rfl, ?_⟩
      refine x_fmt ?_
      walk_at "x"
      exact .inr ⟨_, rfl, log_nat (n := 20000) (by decide), ⟨_, rfl, Nat.le_of_ble_eq_true rfl, _, rfl, Nat.le_of_ble_eq_true rfl, qE (fun ⟨es', e1, z⟩ => by cases e1) H (Same.refl _)⟩⟩
    | str z =>
      walk_at "x"
      walk_at "is"
      walk_at "t"
      refine ⟨_, rfl, by show (Str.empty ++ _).length ≤ _; rw [Str.length_append]; exact Nat.le_of_ble_eq_true rfl, ?_⟩
      refine x_fmt ?_
      walk_at "x"
      exact .inr ⟨_, rfl, log_nat (n := 20000) (by decide), ⟨_, rfl, Nat.le_of_ble_eq_true rfl, _, rfl, Nat.le_of_ble_eq_true rfl, qE (fun ⟨es', e1, z⟩ => by cases e1) H (Same.refl _)⟩⟩

/-! ### programs -/
structure PC (K : PySem.W.Frag) (C : Addr) : Prop where
  cl : Cls K C
  m : NoAttr K C "modulus"
  c : NoAttr K C "cells"
  i : NoAttr K C "inputs"
  s : NoAttr K C "steps"
def progF (m c i : Int) (L : Addr) : List (Str × V) := [("modulus", V.int m), ("cells", V.int c), ("inputs", V.int i), ("steps", V.ref L)]
theorem progF_m {m c i : Int} {L : Addr} : (progF m c i L).lookup ("modulus" : Str) = some (V.int m) := rfl
theorem progF_c {m c i : Int} {L : Addr} : (progF m c i L).lookup ("cells" : Str) = some (V.int c) := rfl
theorem progF_i {m c i : Int} {L : Addr} : (progF m c i L).lookup ("inputs" : Str) = some (V.int i) := rfl
theorem progF_s {m c i : Int} {L : Addr} : (progF m c i L).lookup ("steps" : Str) = some (V.ref L) := rfl
theorem progF_mk {m c i : Int} {L : Addr} : putF "steps" (V.ref L) (putF "inputs" (V.int i) (putF "cells" (V.int c) (putF "modulus" (V.int m) []))) = progF m c i L := rfl

/-- what a program is made of -/
def MadeOk (vm vc vi : V) (e : PyData) (m c i : Nat) (es : List PyData) : Prop := SizesOk vm vc vi m c i ∧ e = .list es ∧ StepsD m c i es
def sp_Program___init (CS : Addr) (K : PySem.W.Frag) : Sp := fun vs H Q E => ∃ (d p C dx : Addr) (vm vc vi v : V) (e : PyData), vs = [.ref p, vm, vc, vi, v] ∧ H p = some (.ins C dx []) ∧ PC K C ∧ Odd H vm ∧ Odd H vc ∧ Odd H vi ∧ DAt d H v e ∧ (∀ es, e = .list es → es.length ≤ 20000 ∧ ∀ x, x ∈ es → Sh x ∧ WdE x) ∧
  ((¬ ∃ m c i es, MadeOk vm vc vi e m c i es) → ∀ H', Same H H' → E (.ref CS) none H') ∧
  (∀ m c i es, MadeOk vm vc vi e m c i es → ∀ (L' : Addr) (xs : List V) (H' : Hp), DAts d H xs es → H L' = none → Keep p H H' → H' p = some (.ins C dx (progF m c i L')) → H' L' = some (.lst xs) → Q .non H')
theorem ok_Program___init (T : Txt K mg) : FnOk P w K mg base (L2.CX P w) 6 T.a_Program___init T.fd_Program___init ["self", "modulus", "cells", "inputs", "steps"] (sp_Program___init T.E_BadStep K) := by
  refine T.F_Program___init.okX sc_Program___init (fun vs H Q E h => ?_) (fun cdv A outer s H vs Q E hr h => ?_)
  · obtain ⟨d, p, C, dx, vm, vc, vi, v, e, rfl, _⟩ := h
    rfl
  · obtain ⟨d, p, C, dx, vm, vc, vi, v, e, rfl, hp, hC, hm, hc, hi, hv, hsz, qE, q⟩ := h
    refine ⟨_, (pss_cons (ps_expr (pe_call (ok_check_sizes T) (hr.mono (by decide)) (by rfl) T.g_check_sizes T.F_check_sizes.kp T.b_check_sizes .nil (passes_call (takes_of rfl rfl rfl rfl) (fun _ _ _ _ h => h)) (pa_cons (pv 1) (pa_cons (pv 2) (pa_cons (pv 3) pa_nil)))))
      (pss_cons (ps_expr (pe_call (ok_check_steps T) hr (by rfl) T.g_check_steps T.F_check_steps.kp T.b_check_steps .nil (passes_call (takes_of rfl rfl rfl rfl) (fun _ _ _ _ h => h)) (pa_cons (pv 4) (pa_cons (pv 1) (pa_cons (pv 2) (pa_cons (pv 3) pa_nil))))))
      (PSs.nox (pss_cons (ps_fld (pv 0) (pv 1) rfl)
      (pss_cons (ps_fld (pv 0) (pv 2) rfl)
      (pss_cons (ps_fld (pv 0) (pv 3) rfl)
      (pss_one (ps_fld (pv 0) (pe_callTy (T := "list") (r := rListOf K) cr_list_of (by rfl) T.m_list (by decide +kernel) (pa_cons (pv 4) pa_nil)) rfl)))))))), ?_⟩
    walk_at "start"
    walk_at "x"
    refine ⟨vm, vc, vi, rfl, hm, hc, hi, (fun hn => qE (fun ⟨m, c, i, es, z⟩ => hn ⟨m, c, i, z.1⟩) H (Same.refl _)), fun m c i hok => ?_⟩
    obtain ⟨rfl, rfl, rfl, m2, m9, c1, c60, i60⟩ := id hok
    walk_at "x"
    refine ⟨d, v, e, m, c, i, rfl, hv, m2, m9, hsz, (fun hn H1 s1 => qE (fun ⟨m', c', i', es, z⟩ => hn ⟨es, z.2.1, ?_⟩) H1 s1), fun ⟨es, ee, hS⟩ H1 s1 => ?_⟩
    · obtain ⟨⟨h1, h2, h3, _⟩, _, h5⟩ := z
      injection h1 with h1
      injection h2 with h2
      injection h3 with h3
      obtain rfl : m = m' := by omega
      obtain rfl : c = c' := by omega
      obtain rfl : i = i' := by omega
      exact h5
    subst ee
    have q := q m c i es ⟨hok, rfl, hS⟩
    cases hv with
    | lst hd hL hs =>
      rename_i L xs
      have hp1 := s1 _ _ hp
      have hL1 := s1 _ _ hL
      walk_at "x"
      refine ⟨p, C, dx, _, rfl, hp1, hC.cl, hC.m, by decide, ?_⟩
      walk_at "x"
      refine ⟨p, C, dx, _, rfl, upd_same, hC.cl, hC.c, by show 1 < 1000; decide, ?_⟩
      walk_at "x"
      refine ⟨p, C, dx, _, rfl, upd_same, hC.cl, hC.i, by show 2 < 1000; decide, ?_⟩
      walk_at "x"
      have hpL : L ≠ p := ne_of hL1 hp1 (by intro z; cases z)
      refine x_listL (sq_of (by rw [upd_ne hpL, upd_ne hpL, upd_ne hpL]; exact hL1)) fun L' hL' => ?_
      have hpL' : p ≠ L' := ne_of_none upd_same hL'
      have hL'1 : H1 L' = none := by
        rw [upd_ne hpL'.symm, upd_ne hpL'.symm, upd_ne hpL'.symm] at hL'
        exact hL'
      walk_at "x"
      refine ⟨p, C, dx, _, rfl, by rw [upd_ne hpL', upd_same], hC.cl, hC.s, by show 3 < 1000; decide, ?_⟩
      rw [progF_mk]
      generalize hU : upd (upd _ _ _) _ _ = U
      have keep : ∀ b o, H b = some o → b ≠ p → U b = some o := fun b o e hb => by
        rw [← hU, upd_ne hb, upd_ne (ne_of_none (s1 _ _ e) hL'1), upd_ne hb, upd_ne hb, upd_ne hb]
        exact s1 _ _ e
      exact q L' xs U hs (s1.free hL'1) keep (by rw [← hU]; exact upd_same) (by rw [← hU, upd_ne hpL'.symm, upd_same])


def sp_Program___len (K : PySem.W.Frag) : Sp := fun vs H Q _ => ∃ (p C dx L : Addr) (m c i : Int) (xs : List V), vs = [.ref p] ∧ H p = some (.ins C dx (progF m c i L)) ∧ PC K C ∧ H L = some (.lst xs) ∧ Q (.int (xs.length : Int)) H
theorem ok_Program___len (T : Txt K mg) : FnOk P w K mg base CX0 1 T.a_Program___len T.fd_Program___len ["self"] (sp_Program___len K) := by
  refine T.F_Program___len.ok sc_Program___len (fun vs H Q E h => ?_) (fun cdv A outer s H vs Q E hr h => ?_)
  · obtain ⟨p, C, dx, L, m, c, i, xs, rfl, _⟩ := h
    rfl
  · obtain ⟨p, C, dx, L, m, c, i, xs, rfl, hp, hC, hL, q⟩ := h
    refine ⟨_, (pss_one (ps_ret (pe_callB (id := "len") (r := rLen K) cr_len (by rfl) T.m_len PySem.boot_len (pa_cons (pe_fld (pv 0) rfl) pa_nil)))), ?_⟩
    walk_at "start"
    walk_at "x"
    refine x_fldR hp hC.cl hC.s progF_s ?_
    walk_at "x"
    refine x_len (sq_of hL) ?_
    exact q


end
end Br
namespace Br
open PySem PySem.Spec PyProof.Rows L2
local macro_rules | `(tactic| walk_at "x1") => `(tactic| (with_reducible first
  | refine Br.x_seq ?_ | refine Br.x_set ?_ | refine Br.x_asg ?_ | refine Br.x_next ?_ | refine Br.x_ret ?_ | refine Br.x_retN ?_ | refine Br.x_drop ?_ | refine Br.x_if ?_ | refine Br.x_brk ?_ | refine Br.x_cont ?_
  | refine Br.x_c ?_ | refine Br.x_op ?_ | refine Br.x_un ?_ | refine Br.x_I0 ?_ | refine Br.x_U ?_ | refine Br.x_EqI ?_ | refine Br.x_NeI ?_ | refine Br.x_EqB ?_ | refine Br.x_iN ?_ | refine Br.x_int1 ?_ | refine Br.x_min2 ?_ | refine Br.x_max2 ?_ | refine Br.x_nN ?_ | refine Br.x_ifE ?_
  | refine Br.x_test (b := ()) ?_ | refine Br.x_tB ?_ | refine Br.x_bl ?_ | refine Br.x_and ?_ | refine Br.x_or ?_ | refine Br.x_not ?_ | refine Br.x_andV ?_ | refine Br.x_orV ?_ | refine Br.x_notV ?_ | refine Br.x_blP ?_
  | refine Br.x_nil ?_ | refine Br.x_cons ?_ | refine Br.x_call ?_ | refine Br.x_CB ?_ | refine Br.x_BM ?_ | refine Br.x_tup ?_ | refine Br.x_lst ?_ | refine Br.x_chain ?_ | refine Br.x_par ?_ | refine Br.x_gSub ?_ | refine Br.x_gName ?_ | refine Br.x_fld ?_ | refine Br.x_fldS ?_ | refine Br.x_match ?_ | refine Br.x_else ?_ | refine Br.x_noCase ?_))
local macro_rules | `(tactic| walk_at "xv") => `(tactic| ((with_reducible refine' Br.x_var ?hvar ?_); (case hvar => rfl)))
local macro_rules | `(tactic| walk_at "xd") => `(tactic| (dsimp only [List.set_cons_zero, List.set_cons_succ, List.cons_append, List.nil_append, List.append_nil]))
local macro_rules | `(tactic| walk_at "xi") => `(tactic| ((with_reducible refine Br.x_I ?hside ?_); (case hside => first | exact Br.mul_r (by decide) (by decide) | exact Br.mul_l (by decide) (by decide) | exact Br.mul_l (by omega) (by omega) | exact Br.mul_r (by omega) (by omega) | (show (0 : Int) < _; first | decide | omega) | exact ⟨by decide, by decide⟩ | exact ⟨by omega, by omega⟩ | exact ⟨by decide, by decide, by decide⟩)))
local macro_rules | `(tactic| walk_at "x") => `(tactic| (repeat (first | walk_at "x1" | walk_at "xv" | walk_at "xi" | walk_at "xd")))
local macro_rules | `(tactic| walk_at "start") => `(tactic| (simp only [L2.start, List.map_cons, List.map_nil, List.length_cons, List.length_nil, Nat.reduceAdd, Nat.reduceSub, List.replicate, List.cons_append, List.nil_append, List.append_nil]))
local macro_rules | `(tactic| walk_at "isi") => `(tactic| first
  | refine Br.x_isi (b := true) (.base (.int _)) (by decide +kernel) ?_ | refine Br.x_isi (b := false) (.base (.int _)) (by decide +kernel) ?_
  | refine Br.x_isi (b := true) (.base (.bl _)) (by decide +kernel) ?_ | refine Br.x_isi (b := false) (.base (.bl _)) (by decide +kernel) ?_
  | refine Br.x_isi (b := false) (.base .non) (by decide +kernel) ?_
  | refine Br.x_isi (b := true) (.base (.str _)) (by decide +kernel) ?_ | refine Br.x_isi (b := false) (.base (.str _)) (by decide +kernel) ?_
  | refine Br.x_isi (b := true) (.base (.tup (by assumption))) (by decide +kernel) ?_ | refine Br.x_isi (b := false) (.base (.tup (by assumption))) (by decide +kernel) ?_
  | refine Br.x_isi (b := true) (.base (.lst (by assumption))) (by decide +kernel) ?_ | refine Br.x_isi (b := false) (.base (.lst (by assumption))) (by decide +kernel) ?_)
local macro_rules | `(tactic| walk_at "f") => `(tactic| (refine L2.iteF ?_; walk_at "x"))
local macro_rules | `(tactic| walk_at "t") => `(tactic| (refine L2.iteT ?_; walk_at "x"))
local macro_rules | `(tactic| walk_at "is") => `(tactic| (walk_at "isi"; walk_at "x"))
local macro_rules | `(tactic| walk_at "xb") => `(tactic| (simp only [Br.bindS, List.set_cons_zero, List.set_cons_succ]; walk_at "x"))

section
variable {P : Program} {w : World} {K : PySem.W.Frag} {mg : Str → Option Value} {base : Heap}

open Br.F
theorem x_eqD {K : PySem.W.Frag} {d : Addr} {H : Hp} {x : V} {e : PyData} {w : Str} {Q : VK} (hx : DAt d H x e) (hs : Sh e) (hw : PyData.strOk w = true) (q : Q (.bl (PyData.eqv e (.str w))) H) : rEqD K x (.str w) H Q :=
  ⟨e, .str w, DAt.dp e hx, .str w, hs.shaped, Sh.shaped ⟨hw, by rw [PyData.depth]; exact Nat.zero_le _⟩, q⟩
theorem x_neD {K : PySem.W.Frag} {d : Addr} {H : Hp} {x : V} {e : PyData} {w : Str} {Q : VK} (hx : DAt d H x e) (hs : Sh e) (hw : PyData.strOk w = true) (q : Q (.bl (!PyData.eqv e (.str w))) H) : rNeD K x (.str w) H Q :=
  ⟨e, .str w, DAt.dp e hx, .str w, hs.shaped, Sh.shaped ⟨hw, by rw [PyData.depth]; exact Nat.zero_le _⟩, q⟩
theorem eqv_no {e : PyData} {w : Str} (h : PyData.eqv e (.str w) = true) : e = .str w := by
  rw [eqv_str] at h
  cases e with
  | str x => exact congrArg PyData.str (of_decide_eq_true h)
  | _ => cases h

def intB (v : V) (lo hi : Int) : Bool := match v with
  | .int i => decide (lo ≤ i) && decide (i ≤ hi)
  | _ => false
theorem intB_isB {v : V} {b : Int} : intB v 0 (b - 1) = isB v b := by
  cases v with
  | int i =>
    show (decide (0 ≤ i) && decide (i ≤ b - 1)) = (decide (0 ≤ i) && decide (i < b))
    rw [show decide (i ≤ b - 1) = decide (i < b) from decide_eq_decide.mpr (by omega)]
  | _ => rfl
def sp_law_integer (K : PySem.W.Frag) : Sp := fun vs H Q _ => ∃ (v : V) (lo hi : Int), vs = [v, .int lo, .int hi] ∧ Odd H v ∧ Q (.bl (intB v lo hi)) H
theorem ok_law_integer (T : Txt K mg) : FnOk P w K mg base CX0 1 T.a_law_integer T.fd_law_integer ["number", "low", "high"] (sp_law_integer K) := by
  refine T.F_law_integer.ok sc_law_integer (fun vs H Q E h => ?_) (fun cdv A outer s H vs Q E hr h => ?_)
  · obtain ⟨v, lo, hi, rfl, _⟩ := h
    rfl
  · obtain ⟨v, lo, hi, rfl, ho, q⟩ := h
    refine ⟨_, (pss_one (ps_ret (pe_and (pe_callB (id := "isinstance") (r := rIsi K) call_isi (by rfl) T.m_isinstance (by decide +kernel) (pa_cons (pv 0) (pa_cons (pe_bltn (v := .ty "int") (by rfl) T.m_int (by decide +kernel) rfl) pa_nil))) (pe_and (pe_not (pe_callB (id := "isinstance") (r := rIsi K) call_isi (by rfl) T.m_isinstance (by decide +kernel) (pa_cons (pv 0) (pa_cons (pe_bltn (v := .ty "bool") (by rfl) T.m_bool (by decide +kernel) rfl) pa_nil)))) (pe_one (pe_chain op_le op_le (pv 1) (pv 0) (pv 2))))))), ?_⟩
    walk_at "start"
    cases ho with
    | int i =>
      have q : Q (.bl (decide (lo ≤ i) && decide (i ≤ hi))) H := q
      walk_at "x"
      walk_at "is"
      walk_at "t"
      walk_at "is"
      walk_at "t"
      refine x_ite (fun h0 => ?_) (fun h0 => ?_)
      · rw [decide_eq_true h0, Bool.true_and] at q
        walk_at "x"
        exact q
      · rw [decide_eq_false h0, Bool.false_and] at q
        exact q
    | bl b =>
      walk_at "x"
      walk_at "is"
      walk_at "t"
      walk_at "is"
      walk_at "f"
      exact q
    | non =>
      walk_at "x"
      walk_at "is"
      walk_at "f"
      exact q
    | str x =>
      walk_at "x"
      walk_at "is"
      walk_at "f"
      exact q
    | tup a xs h =>
      walk_at "x"
      walk_at "is"
      walk_at "f"
      exact q
    | lst a xs h =>
      walk_at "x"
      walk_at "is"
      walk_at "f"
      exact q

theorem int_callD {K : PySem.W.Frag} {d : Addr} {H : Hp} {v : V} {e : PyData} {b : Int} {Q : VK} {E : XK} (h : DAt d H v e) (q : Q (.bl (isBD b e)) H) : sp_law_integer K [v, .int 0, .int (b - 1)] H Q E :=
  ⟨v, 0, b - 1, rfl, h.odd, by rw [intB_isB, h.isB]; exact q⟩

theorem fact_len {t c i : Int} {es : List PyData} (h : es.length ≠ 2) : factD t c i (.tuple es) = false := by
  unfold factD
  split
  · rename_i w x he
    cases he
    exact absurd rfl h
  · rfl
def sp_law_is_factor (K : PySem.W.Frag) : Sp := fun vs H Q _ => ∃ (d : Addr) (v : V) (e : PyData) (t c i : Int), vs = [v, .int t, .int c, .int i] ∧ DAt d H v e ∧ Sh e ∧ Q (.bl (factD t c i e)) H
theorem ok_law_is_factor (T : Txt K mg) : FnOk P w K mg base CX0 2 T.a_law_is_factor T.fd_law_is_factor ["factor", "target", "cells", "inputs"] (sp_law_is_factor K) := by
  refine T.F_law_is_factor.ok sc_law_is_factor (fun vs H Q E h => ?_) (fun cdv A outer s H vs Q E hr h => ?_)
  · obtain ⟨d, v, e, t, c, i, rfl, _⟩ := h
    rfl
  · obtain ⟨d, v, e, t, c, i, rfl, hv, hsh, q⟩ := h
    refine ⟨_, (pss_cons (ps_if (PW.pt (pw_or (pt_not (pt_val (pe_callB (id := "isinstance") (r := rIsi K) call_isi (by rfl) T.m_isinstance (by decide +kernel) (pa_cons (pv 0) (pa_cons (pe_bltn (v := .ty "tuple") (by rfl) T.m_tuple (by decide +kernel) rfl) pa_nil))))) (pw_or1 (pt_cmpR op_ne (pe_callB (id := "len") (r := rLen K) cr_len (by rfl) T.m_len PySem.boot_len (pa_cons (pv 0) pa_nil)) pe_int (nomark _)))))
      (pss_one (ps_ret pe_bl))
      pss_nil)
      (pss_cons (ps_if (pt_cmpR (op_eqD hr.units) (pe_ix (r := rIxT K) ix_tup (pv 0) pe_int (fun _ _ => rfl)) pe_str (nomark _))
      (pss_one (ps_ret (pe_and (pe_call (ok_law_integer T) hr (by rfl) T.g_law_integer T.F_law_integer.kp T.b_law_integer .nil pass0 (pa_cons (pe_ix (r := rIxT K) ix_tup (pv 0) pe_int (fun _ _ => rfl)) (pa_cons pe_int (pa_cons (pe_op op_sub (pv 2) pe_int) pa_nil)))) (pe_one (pe_cmpR op_ne (pe_ix (r := rIxT K) ix_tup (pv 0) pe_int (fun _ _ => rfl)) (pv 1) (nomark _))))))
      pss_nil)
      (pss_one (ps_ret (pe_and (pe_cmpR (op_eqD hr.units) (pe_ix (r := rIxT K) ix_tup (pv 0) pe_int (fun _ _ => rfl)) pe_str (nomark _)) (pe_one (pe_call (ok_law_integer T) hr (by rfl) T.g_law_integer T.F_law_integer.kp T.b_law_integer .nil pass0 (pa_cons (pe_ix (r := rIxT K) ix_tup (pv 0) pe_int (fun _ _ => rfl)) (pa_cons pe_int (pa_cons (pe_op op_sub (pv 3) pe_int) pa_nil)))))))))), ?_⟩
    walk_at "start"
    cases hv with
    | tup h hs =>
      rename_i a xs es
      have hsh := hsh.of_tup
      have hlen := hs.len
      walk_at "x"
      walk_at "is"
      walk_at "f"
      refine x_lenT (st_of h) ?_
      walk_at "x"
      rw [hlen]
      refine x_iteN (fun hc => ?_) (fun hc => ?_)
      · walk_at "x"
        rw [fact_len (fun z => hc (by omega))] at q
        exact q
      obtain ⟨e0, e1, rfl⟩ : ∃ e0 e1, es = [e0, e1] := by
        match es, hc with
        | [a, b], _ => exact ⟨a, b, rfl⟩
        | [], hc => simp at hc
        | [_], hc => simp at hc
        | _ :: _ :: _ :: _, hc => simp at hc; omega
      cases hs with
      | cons g0 gs =>
        cases gs with
        | cons g1 gs =>
          cases gs
          walk_at "x"
          refine x_ixT (st_of h) (atI_nat (j := 0) rfl) ?_
          walk_at "x"
          refine x_eqD g0 (hsh _ (by simp)) (by decide +kernel) ?_
          walk_at "x"
          by_cases w1 : PyData.eqv e0 (.str "cell") = true
          · obtain rfl := eqv_no w1
            rw [w1]
            rw [fc2, if_pos rfl] at q
            walk_at "t"
            refine x_ixT (st_of h) (atI_nat (j := 1) rfl) ?_
            walk_at "x"
            refine int_callD g1 ?_
            refine x_blP ?_
            refine x_iteB (fun hb => ?_) (fun hb => ?_)
            · obtain ⟨j, rfl, _, _⟩ := isBD_int hb
              cases g1
              rw [hb, Bool.true_and] at q
              walk_at "x"
              refine x_ixT (st_of h) (atI_nat (j := 1) rfl) ?_
              walk_at "x"
              exact q
            · rw [hb, Bool.false_and] at q
              exact q
          · rw [Bool.not_eq_true] at w1
            rw [w1]
            walk_at "f"
            refine x_ixT (st_of h) (atI_nat (j := 0) rfl) ?_
            walk_at "x"
            refine x_eqD g0 (hsh _ (by simp)) (by decide +kernel) ?_
            walk_at "x"
            by_cases w2 : PyData.eqv e0 (.str "input") = true
            · obtain rfl := eqv_no w2
              rw [w2]
              rw [fc2, if_neg (by decide), if_pos rfl] at q
              walk_at "t"
              refine x_ixT (st_of h) (atI_nat (j := 1) rfl) ?_
              walk_at "x"
              exact int_callD g1 q
            · rw [Bool.not_eq_true] at w2
              rw [w2]
              walk_at "f"
              have e : factD t c i (.tuple [e0, e1]) = false := by
                cases e0 with
                | str w =>
                  rw [eqv_str] at w1 w2
                  rw [fc2, if_neg (of_decide_eq_false w1), if_neg (of_decide_eq_false w2)]
                | _ => rfl
              rw [e] at q
              exact q
    | lst hd h hs =>
      walk_at "x"
      walk_at "is"
      walk_at "t"
      exact q
    | int i =>
      walk_at "x"
      walk_at "is"
      walk_at "t"
      exact q
    | bl b =>
      walk_at "x"
      walk_at "is"
      walk_at "t"
      exact q
    | non =>
      walk_at "x"
      walk_at "is"
      walk_at "t"
      exact q
    | str z =>
      walk_at "x"
      walk_at "is"
      walk_at "t"
      exact q


theorem x_forPreT4 {K : PySem.W.Frag} {σ : L2.St} {H : Hp} {D : Ends} {ta : TE} {g : TG} {tb : TS} (h : ta σ H fun v H1 => tFor (iTup K (tC v)) g tb D σ H1) : tFor (iTup K ta) g tb D σ H := h
def sp_law_is_table (K : PySem.W.Frag) : Sp := fun vs H Q _ => ∃ (d : Addr) (v : V) (e : PyData) (m : Nat), vs = [v, .int (m : Int)] ∧ DAt d H v e ∧ (∀ rs, e = .tuple rs → rs.length ≤ 1000) ∧ ∀ H', Same H H' → Q (.bl (tabXD (m : Int) e)) H'
theorem ok_law_is_table (T : Txt K mg) : FnOk P w K mg base CX0 2 T.a_law_is_table T.fd_law_is_table ["table", "modulus"] (sp_law_is_table K) := by
  refine T.F_law_is_table.ok sc_law_is_table (fun vs H Q E h => ?_) (fun cdv A outer s H vs Q E hr h => ?_)
  · obtain ⟨d, v, e, m, rfl, _⟩ := h
    rfl
  · obtain ⟨d, v, e, m, rfl, hv, hz, q⟩ := h
    refine ⟨_, (pss_cons (ps_if (PW.pt (pw_or (pt_not (pt_val (pe_callB (id := "isinstance") (r := rIsi K) call_isi (by rfl) T.m_isinstance (by decide +kernel) (pa_cons (pv 0) (pa_cons (pe_bltn (v := .ty "tuple") (by rfl) T.m_tuple (by decide +kernel) rfl) pa_nil))))) (pw_or (pt_cmpR op_lt (pe_callB (id := "len") (r := rLen K) cr_len (by rfl) T.m_len PySem.boot_len (pa_cons (pv 0) pa_nil)) pe_int (nomark _)) (pw_or1 (pt_cmpR op_gt (pe_callB (id := "len") (r := rLen K) cr_len (by rfl) T.m_len PySem.boot_len (pa_cons (pv 0) pa_nil)) (pv 1) (nomark _))))))
      (pss_one (ps_ret pe_bl))
      pss_nil)
      (pss_cons (ps_for PassesOwn.never rfl (pi_tup (pv 0)) (pg_name (i := 2) sc_law_is_table.nd rfl (Or.inl rfl))
      (pss_cons (ps_if (PW.pt (pw_or (pt_not (pt_val (pe_callB (id := "isinstance") (r := rIsi K) call_isi (by rfl) T.m_isinstance (by decide +kernel) (pa_cons (pv 2) (pa_cons (pe_bltn (v := .ty "tuple") (by rfl) T.m_tuple (by decide +kernel) rfl) pa_nil))))) (pw_or1 (pt_cmpR op_ne (pe_callB (id := "len") (r := rLen K) cr_len (by rfl) T.m_len PySem.boot_len (pa_cons (pv 2) pa_nil)) (pe_callB (id := "len") (r := rLen K) cr_len (by rfl) T.m_len PySem.boot_len (pa_cons (pv 0) pa_nil)) (nomark _)))))
      (pss_one (ps_ret pe_bl))
      pss_nil)
      (pss_one (ps_for PassesOwn.never rfl (pi_tup (pv 2)) (pg_name (i := 3) sc_law_is_table.nd rfl (Or.inl rfl))
      (pss_one (ps_if (pt_not (pt_val (pe_call (ok_law_integer T) hr (by rfl) T.g_law_integer T.F_law_integer.kp T.b_law_integer .nil pass0 (pa_cons (pv 3) (pa_cons pe_int (pa_cons (pe_op op_sub (pv 1) pe_int) pa_nil))))))
      (pss_one (ps_ret pe_bl))
      pss_nil))))))
      (pss_one (ps_ret pe_bl)))), ?_⟩
    walk_at "start"
    cases hv with
    | tup h hs =>
      rename_i a xs es
      have hz := hz es rfl
      have hlen := hs.len
      have ep : tabXD (m : Int) (.tuple es) = ((decide (1 ≤ es.length) && decide ((es.length : Int) ≤ (m : Int))) && es.all (rowXD es.length (m : Int))) := rfl
      walk_at "x"
      walk_at "is"
      walk_at "f"
      refine x_lenT (st_of h) ?_
      rw [hlen]
      walk_at "x"
      refine x_ite (fun hc => ?_) (fun hc => ?_)
      · walk_at "t"
        rw [ep, decide_eq_false (show ¬ 1 ≤ es.length by omega), Bool.false_and, Bool.false_and] at q
        exact q H (Same.refl _)
      walk_at "x"
      refine x_lenT (st_of h) ?_
      rw [hlen]
      walk_at "x"
      refine x_ite (fun hc2 => ?_) (fun hc2 => ?_)
      · walk_at "x"
        rw [ep, decide_eq_false (show ¬ (es.length : Int) ≤ (m : Int) by omega), Bool.and_false, Bool.false_and] at q
        exact q H (Same.refl _)
      rw [ep, decide_eq_true (show 1 ≤ es.length by omega), decide_eq_true (show (es.length : Int) ≤ (m : Int) by omega), Bool.true_and, Bool.true_and] at q
      walk_at "x"
      refine x_forI (J := Itt K a) (n := xs.length) (G := fun H => SqT K H a xs) (fun R r => ⟨_, rfl, a, rfl, ⟨_, st_of h⟩, r⟩) walk_tup (fun k σ' H' => Same H H' ∧ (∀ j x, j < k → es[j]? = some x → rowXD es.length (m : Int) x = true) ∧ ∃ v2 v3, σ' = [some (.ref a), some (.int (m : Int)), v2, v3]) ⟨Same.refl _, fun j x hj => absurd hj (Nat.not_lt_zero j), _, _, rfl⟩ (fun k σ' H' _ z => st_of (z.1 _ _ h)) ?_ ?_
      · rintro k y σ' H' H2 hk ⟨hs', hall, v2, v3, rfl⟩ ⟨rfl, gy⟩
        obtain ⟨f, hf, hyf⟩ := hs.get gy
        have hyf := DAt.same hs' f hyf
        have hfm := List.mem_of_getElem? hf
        have bad : rowXD es.length (m : Int) f = false → ∀ H4, Same H2 H4 → Q (.bl false) H4 := fun hb H4 s4 => by
          have e : es.all (rowXD es.length (m : Int)) = false := List.all_eq_false.mpr ⟨f, hfm, by rw [hb]; exact Bool.false_ne_true⟩
          rw [e] at q
          exact q H4 (hs'.trans s4)
        cases hyf with
        | tup hr' hrs =>
          rename_i ra rx fs
          have hrl := hrs.len
          have er : rowXD es.length (m : Int) (.tuple fs) = (decide (fs.length = es.length) && fs.all (isBD (m : Int))) := rfl
          walk_at "x"
          walk_at "is"
          walk_at "f"
          refine x_lenT (st_of hr') ?_
          walk_at "x"
          refine x_lenT (st_of (hs' _ _ h)) ?_
          walk_at "x"
          rw [hrl, hlen]
          refine x_iteN (fun hc3 => ?_) (fun hc3 => ?_)
          · walk_at "x"
            exact bad (by rw [er, decide_eq_false (by omega), Bool.false_and]) H2 (Same.refl _)
          have hc3 : fs.length = es.length := by omega
          rw [decide_eq_true hc3, Bool.true_and] at er
          walk_at "x"
          refine x_forI (J := Itt K ra) (n := rx.length) (G := fun H => SqT K H ra rx) (fun R r => ⟨_, rfl, ra, rfl, ⟨_, st_of hr'⟩, r⟩) walk_tup (fun k2 σ' H' => Same H2 H' ∧ (∀ j x, j < k2 → fs[j]? = some x → isBD (m : Int) x = true) ∧ ∃ v3, σ' = [some (.ref a), some (.int (m : Int)), some (.ref ra), v3]) ⟨Same.refl _, fun j x hj => absurd hj (Nat.not_lt_zero j), _, rfl⟩ (fun k σ' H' _ z => st_of (z.1 _ _ hr')) ?_ ?_
          · rintro k2 y2 σ' H' H4 hk2 ⟨hs4, hall2, v3, rfl⟩ ⟨rfl, gy2⟩
            obtain ⟨f2, hf2, hyf2⟩ := hrs.get gy2
            have hyf2 := DAt.same hs4 f2 hyf2
            walk_at "x"
            refine int_callD hyf2 ?_
            walk_at "x"
            refine x_iteBN (fun hb => ?_) (fun hb => ?_)
            · walk_at "x"
              exact bad (by rw [er]; exact List.all_eq_false.mpr ⟨f2, List.mem_of_getElem? hf2, by rw [hb]; exact Bool.false_ne_true⟩) _ hs4
            · walk_at "x"
              refine ⟨hs4, fun j x hj hx => ?_, _, rfl⟩
              by_cases e : j = k2
              · subst e
                rw [hf2] at hx
                cases hx
                exact hb
              · exact hall2 j x (by omega) hx
          · rintro σ' H' ⟨hs4, hall2, v3, rfl⟩
            walk_at "x"
            refine ⟨hs'.trans hs4, fun j x hj hx => ?_, _, _, rfl⟩
            by_cases e : j = k
            · subst e
              rw [hf] at hx
              cases hx
              rw [er]
              refine List.all_eq_true.mpr fun x hx => ?_
              obtain ⟨j, hj⟩ := List.getElem?_of_mem hx
              exact hall2 j x (by have := (List.getElem?_eq_some_iff.mp hj).1; omega) hj
            · exact hall j x (by omega) hx
        | lst hd2 h2 hs2 =>
          walk_at "x"
          walk_at "is"
          walk_at "t"
          exact bad rfl H2 (Same.refl _)
        | int i =>
          walk_at "x"
          walk_at "is"
          walk_at "t"
          exact bad rfl H2 (Same.refl _)
        | bl b =>
          walk_at "x"
          walk_at "is"
          walk_at "t"
          exact bad rfl H2 (Same.refl _)
        | non =>
          walk_at "x"
          walk_at "is"
          walk_at "t"
          exact bad rfl H2 (Same.refl _)
        | str z =>
          walk_at "x"
          walk_at "is"
          walk_at "t"
          exact bad rfl H2 (Same.refl _)
      · rintro σ' H' ⟨hs', hall, v2, v3, rfl⟩
        walk_at "x"
        have e : es.all (rowXD es.length (m : Int)) = true := List.all_eq_true.mpr fun x hx => by
          obtain ⟨j, hj⟩ := List.getElem?_of_mem hx
          exact hall j x (by have := (List.getElem?_eq_some_iff.mp hj).1; omega) hj
        rw [e] at q
        exact q H' hs'
    | lst hd h hs =>
      walk_at "x"
      walk_at "is"
      walk_at "t"
      exact q H (Same.refl _)
    | int i =>
      walk_at "x"
      walk_at "is"
      walk_at "t"
      exact q H (Same.refl _)
    | bl b =>
      walk_at "x"
      walk_at "is"
      walk_at "t"
      exact q H (Same.refl _)
    | non =>
      walk_at "x"
      walk_at "is"
      walk_at "t"
      exact q H (Same.refl _)
    | str z =>
      walk_at "x"
      walk_at "is"
      walk_at "t"
      exact q H (Same.refl _)


def addD (m c i : Int) : List PyData → Bool
  | [_, .int t, k, fs] => isBD m k && factsD t c i fs
  | _ => false
theorem add_len {m c i : Int} {es : List PyData} (h : es.length ≠ 4) : addD m c i es = false := by
  unfold addD
  split
  · exact absurd rfl h
  · rfl
def sp_law_is_add (K : PySem.W.Frag) : Sp := fun vs H Q _ => ∃ (d a : Addr) (es : List PyData) (m c i t : Int), vs = [.ref a, .int m, .int c, .int i] ∧ DAt d H (.ref a) (.tuple es) ∧ Sh (.tuple es) ∧ 3 ≤ es.length ∧ es[1]? = some (.int t) ∧ ∀ H', Same H H' → Q (.bl (addD m c i es)) H'
theorem ok_law_is_add (T : Txt K mg) : FnOk P w K mg base CX0 3 T.a_law_is_add T.fd_law_is_add ["step", "modulus", "cells", "inputs"] (sp_law_is_add K) := by
  refine T.F_law_is_add.ok sc_law_is_add (fun vs H Q E h => ?_) (fun cdv A outer s H vs Q E hr h => ?_)
  · obtain ⟨d, a, es, m, c, i, t, rfl, _⟩ := h
    rfl
  · obtain ⟨d, a, es, m, c, i, t, rfl, hv, hsh, h3, ht, q⟩ := h
    refine ⟨_, (pss_cons (ps_if (PW.pt (pw_or (pt_cmpR op_ne (pe_callB (id := "len") (r := rLen K) cr_len (by rfl) T.m_len PySem.boot_len (pa_cons (pv 0) pa_nil)) pe_int (nomark _)) (pw_or1 (pt_not (pt_val (pe_call (ok_law_integer T) (hr.mono (by decide)) (by rfl) T.g_law_integer T.F_law_integer.kp T.b_law_integer .nil pass0 (pa_cons (pe_ix (r := rIxT K) ix_tup (pv 0) pe_int (fun _ _ => rfl)) (pa_cons pe_int (pa_cons (pe_op op_sub (pv 1) pe_int) pa_nil)))))))))
      (pss_one (ps_ret pe_bl))
      pss_nil)
      (pss_cons (ps_if (PW.pt (pw_or (pt_not (pt_val (pe_callB (id := "isinstance") (r := rIsi K) call_isi (by rfl) T.m_isinstance (by decide +kernel) (pa_cons (pe_ix (r := rIxT K) ix_tup (pv 0) pe_int (fun _ _ => rfl)) (pa_cons (pe_bltn (v := .ty "tuple") (by rfl) T.m_tuple (by decide +kernel) rfl) pa_nil))))) (pw_or1 (pt_cmpR op_gt (pe_callB (id := "len") (r := rLen K) cr_len (by rfl) T.m_len PySem.boot_len (pa_cons (pe_ix (r := rIxT K) ix_tup (pv 0) pe_int (fun _ _ => rfl)) pa_nil)) pe_int (nomark _)))))
      (pss_one (ps_ret pe_bl))
      pss_nil)
      (pss_cons (ps_for PassesOwn.never rfl (pi_tup (pe_ix (r := rIxT K) ix_tup (pv 0) pe_int (fun _ _ => rfl))) (pg_name (i := 4) sc_law_is_add.nd rfl (Or.inl rfl))
      (pss_one (ps_if (pt_not (pt_val (pe_call (ok_law_is_factor T) hr (by rfl) T.g_law_is_factor T.F_law_is_factor.kp T.b_law_is_factor .nil pass0 (pa_cons (pv 4) (pa_cons (pe_ix (r := rIxT K) ix_tup (pv 0) pe_int (fun _ _ => rfl)) (pa_cons (pv 2) (pa_cons (pv 3) pa_nil)))))))
      (pss_one (ps_ret pe_bl))
      pss_nil)))
      (pss_one (ps_ret pe_bl))))), ?_⟩
    walk_at "start"
    cases hv with
    | tup h hs =>
      rename_i xs
      have hsh := hsh.of_tup
      have hlen := hs.len
      walk_at "x"
      refine x_lenT (st_of h) ?_
      walk_at "x"
      rw [hlen]
      refine x_iteN (fun hc => ?_) (fun hc => ?_)
      · walk_at "x"
        rw [add_len (fun z => hc (by omega))] at q
        exact q H (Same.refl _)
      obtain ⟨e0, k, fs, rfl⟩ : ∃ e0 k fs, es = [e0, .int t, k, fs] := by
        match es, hc, ht with
        | [a, b, k, fs], _, ht => cases ht; exact ⟨a, k, fs, rfl⟩
        | [], hc, _ => simp at hc
        | [_], hc, _ => simp at hc
        | [_, _], hc, _ => simp at hc
        | [_, _, _], hc, _ => simp at hc
        | _ :: _ :: _ :: _ :: _ :: _, hc, _ => simp at hc; omega
      have q : ∀ H', Same H H' → Q (.bl (isBD m k && factsD t c i fs)) H' := q
      cases hs with
      | cons g0 gs =>
        cases gs with
        | cons g1 gs =>
          cases g1
          cases gs with
          | cons g2 gs =>
            cases gs with
            | cons g3 gs =>
              cases gs
              walk_at "x"
              refine x_ixT (st_of h) (atI_nat (j := 2) rfl) ?_
              walk_at "x"
              refine int_callD g2 ?_
              walk_at "x"
              refine x_iteBN (fun hb => ?_) (fun hb => ?_)
              · walk_at "x"
                rw [hb, Bool.false_and] at q
                exact q H (Same.refl _)
              rw [hb, Bool.true_and] at q
              walk_at "x"
              refine x_ixT (st_of h) (atI_nat (j := 3) rfl) ?_
              have hf3 := hsh fs (by simp)
              cases g3 with
              | @tup ra rx gs hr' hrs =>
                have hf3 := hf3.of_tup
                have hrl := hrs.len
                have q : ∀ H', Same H H' → Q (.bl (decide (gs.length ≤ 3) && gs.all (factD t c i))) H' := q
                walk_at "x"
                walk_at "is"
                walk_at "f"
                refine x_ixT (st_of h) (atI_nat (j := 3) rfl) ?_
                walk_at "x"
                refine x_lenT (st_of hr') ?_
                walk_at "x"
                rw [hrl]
                refine x_ite (fun hc3 => ?_) (fun hc3 => ?_)
                · walk_at "x"
                  rw [decide_eq_false (by omega), Bool.false_and] at q
                  exact q H (Same.refl _)
                rw [decide_eq_true (by omega), Bool.true_and] at q
                walk_at "x"
                refine x_forPreT4 ?_
                walk_at "x"
                refine x_ixT (st_of h) (atI_nat (j := 3) rfl) ?_
                refine x_forI (J := Itt K ra) (n := rx.length) (G := fun H => SqT K H ra rx) (fun R r => ⟨ra, rfl, ⟨_, st_of hr'⟩, r⟩) walk_tup (fun k2 σ' H' => Same H H' ∧ (∀ j x, j < k2 → gs[j]? = some x → factD t c i x = true) ∧ ∃ v3, σ' = [some (.ref a), some (.int m), some (.int c), some (.int i), v3]) ⟨Same.refl _, fun j x hj => absurd hj (Nat.not_lt_zero j), _, rfl⟩ (fun k σ' H' _ z => st_of (z.1 _ _ hr')) ?_ ?_
                · rintro k2 y2 σ' H' H4 hk2 ⟨hs4, hall2, v3, rfl⟩ ⟨rfl, gy2⟩
                  obtain ⟨f2, hf2, hyf2⟩ := hrs.get gy2
                  have hyf2 := DAt.same hs4 f2 hyf2
                  walk_at "x"
                  refine x_ixT (st_of (hs4 _ _ h)) (atI_nat (j := 1) rfl) ?_
                  walk_at "x"
                  refine ⟨d, y2, f2, t, c, i, rfl, hyf2, hf3 f2 (List.mem_of_getElem? hf2), ?_⟩
                  walk_at "x"
                  refine x_iteBN (fun hb => ?_) (fun hb => ?_)
                  · walk_at "x"
                    rw [show gs.all (factD t c i) = false from List.all_eq_false.mpr ⟨f2, List.mem_of_getElem? hf2, by rw [hb]; exact Bool.false_ne_true⟩] at q
                    exact q _ hs4
                  · walk_at "x"
                    refine ⟨hs4, fun j x hj hx => ?_, _, rfl⟩
                    by_cases e : j = k2
                    · subst e
                      rw [hf2] at hx
                      cases hx
                      exact hb
                    · exact hall2 j x (by omega) hx
                · rintro σ' H' ⟨hs4, hall2, v3, rfl⟩
                  walk_at "x"
                  rw [show gs.all (factD t c i) = true from List.all_eq_true.mpr fun x hx => by
                    obtain ⟨j, hj⟩ := List.getElem?_of_mem hx
                    exact hall2 j x (by have := (List.getElem?_eq_some_iff.mp hj).1; omega) hj] at q
                  exact q _ hs4
              | lst hd2 h2 hs2 =>
                walk_at "x"
                walk_at "is"
                walk_at "t"
                exact q H (Same.refl _)
              | int i =>
                walk_at "x"
                walk_at "is"
                walk_at "t"
                exact q H (Same.refl _)
              | bl b =>
                walk_at "x"
                walk_at "is"
                walk_at "t"
                exact q H (Same.refl _)
              | non =>
                walk_at "x"
                walk_at "is"
                walk_at "t"
                exact q H (Same.refl _)
              | str z =>
                walk_at "x"
                walk_at "is"
                walk_at "t"
                exact q H (Same.refl _)


def sp_law_prime_modulus (K : PySem.W.Frag) : Sp := fun vs H Q _ => ∃ (m : Nat), vs = [.int (m : Int)] ∧ 2 ≤ m ∧ m ≤ 1000000000 ∧ ∀ b, (b = true ↔ IsPrime m) → Q (.bl b) H
theorem ok_law_prime_modulus (T : Txt K mg) : FnOk P w K mg base CX0 1 T.a_law_prime_modulus T.fd_law_prime_modulus ["number"] (sp_law_prime_modulus K) := by
  refine T.F_law_prime_modulus.ok sc_law_prime_modulus (fun vs H Q E h => ?_) (fun cdv A outer s H vs Q E hr h => ?_)
  · obtain ⟨m, rfl, _⟩ := h
    rfl
  · obtain ⟨m, rfl, m2, m9, q⟩ := h
    refine ⟨_, (pss_cons (ps_if (pt_cmpR op_lt (pv 0) pe_int (nomark _))
      (pss_one (ps_ret pe_bl))
      pss_nil)
      (pss_cons (ps_for PassesOwn.never rfl (pi_range2 (by rfl) T.m_range (pa_cons pe_int (pa_cons pe_int pa_nil))) (pg_name (i := 1) sc_law_prime_modulus.nd rfl (Or.inl rfl))
      (pss_cons (ps_if (pt_cmpR op_gt (pe_op op_mul (pv 1) (pv 1)) (pv 0) (nomark _))
      (pss_one (ps_ret pe_bl))
      pss_nil)
      (pss_one (ps_if (pt_cmpR op_eq (pe_op op_mod (pv 0) (pv 1)) pe_int (nomark _))
      (pss_one (ps_ret pe_bl))
      pss_nil))))
      (pss_one (ps_ret pe_bl)))), ?_⟩
    walk_at "start"
    walk_at "x"
    rw [decide_eq_false (show ¬ (m : Int) < 2 by omega)]
    walk_at "f"
    refine x_forR2 2 31700 (fun k σ' H' => H = H' ∧ (∀ d : Int, 2 ≤ d → d < 2 + (k : Int) → (m : Int) % d ≠ 0) ∧ ∃ v, σ' = [some (.int (m : Int)), v]) (fun R r => r) (fun R r => r) (by decide) (by decide) (by decide) (by decide) ⟨rfl, fun d a b => by omega, _, rfl⟩ ?_ ?_
    · rintro k σ' H' hk ⟨rfl, hno, v, rfl⟩
      walk_at "x"
      refine x_ite (fun h1 => ?_) (fun h1 => ?_)
      · walk_at "x"
        refine q true ⟨fun _ => prime_N ⟨by omega, fun d d2 dd => hno d d2 ?_⟩, fun _ => rfl⟩
        by_cases hd : d < 2 + (k : Int)
        · exact hd
        · have h2 : (2 + (k : Int)) * (2 + (k : Int)) ≤ d * d := Int.mul_le_mul (by omega) (by omega) (by omega) (by omega)
          omega
      · walk_at "x"
        refine x_ite (fun h2 => ?_) (fun h2 => ?_)
        · walk_at "x"
          refine q false ⟨fun z => (nomatch z), fun hp => ?_⟩
          exact absurd h2 ((prime_I hp).2 (2 + (k : Int)) (by omega) (by omega))
        · walk_at "x"
          refine ⟨rfl, fun d a b => ?_, _, rfl⟩
          by_cases e : d = 2 + (k : Int)
          · rw [e]; exact h2
          · exact hno d a (by omega)
    · rintro σ' H' ⟨rfl, hno, v, rfl⟩
      walk_at "x"
      refine q true ⟨fun _ => prime_N ⟨by omega, fun d d2 dd => hno d d2 ?_⟩, fun _ => rfl⟩
      by_cases hd : d < 31700
      · have e : ((31700 : Int) - 2).toNat = 31698 := by decide
        rw [e]
        omega
      · have h2 : (31700 : Int) * 31700 ≤ d * d := Int.mul_le_mul (by omega) (by omega) (by omega) (by omega)
        omega


end
end Br
namespace Br
open PySem PySem.Spec PyProof.Rows L2
local macro_rules | `(tactic| walk_at "x1") => `(tactic| (with_reducible first
  | refine Br.x_seq ?_ | refine Br.x_set ?_ | refine Br.x_asg ?_ | refine Br.x_next ?_ | refine Br.x_ret ?_ | refine Br.x_retN ?_ | refine Br.x_drop ?_ | refine Br.x_if ?_ | refine Br.x_brk ?_ | refine Br.x_cont ?_
  | refine Br.x_c ?_ | refine Br.x_op ?_ | refine Br.x_un ?_ | refine Br.x_I0 ?_ | refine Br.x_U ?_ | refine Br.x_EqI ?_ | refine Br.x_NeI ?_ | refine Br.x_EqB ?_ | refine Br.x_iN ?_ | refine Br.x_int1 ?_ | refine Br.x_min2 ?_ | refine Br.x_max2 ?_ | refine Br.x_nN ?_ | refine Br.x_ifE ?_
  | refine Br.x_test (b := ()) ?_ | refine Br.x_tB ?_ | refine Br.x_bl ?_ | refine Br.x_and ?_ | refine Br.x_or ?_ | refine Br.x_not ?_ | refine Br.x_andV ?_ | refine Br.x_orV ?_ | refine Br.x_notV ?_ | refine Br.x_blP ?_
  | refine Br.x_nil ?_ | refine Br.x_cons ?_ | refine Br.x_call ?_ | refine Br.x_CB ?_ | refine Br.x_BM ?_ | refine Br.x_tup ?_ | refine Br.x_lst ?_ | refine Br.x_chain ?_ | refine Br.x_par ?_ | refine Br.x_gSub ?_ | refine Br.x_gName ?_ | refine Br.x_fld ?_ | refine Br.x_fldS ?_ | refine Br.x_match ?_ | refine Br.x_else ?_ | refine Br.x_noCase ?_))
local macro_rules | `(tactic| walk_at "xv") => `(tactic| ((with_reducible refine' Br.x_var ?hvar ?_); (case hvar => rfl)))
local macro_rules | `(tactic| walk_at "xd") => `(tactic| (dsimp only [List.set_cons_zero, List.set_cons_succ, List.cons_append, List.nil_append, List.append_nil]))
local macro_rules | `(tactic| walk_at "xi") => `(tactic| ((with_reducible refine Br.x_I ?hside ?_); (case hside => first | exact Br.mul_r (by decide) (by decide) | exact Br.mul_l (by decide) (by decide) | exact Br.mul_l (by omega) (by omega) | exact Br.mul_r (by omega) (by omega) | (show (0 : Int) < _; first | decide | omega) | exact ⟨by decide, by decide⟩ | exact ⟨by omega, by omega⟩ | exact ⟨by decide, by decide, by decide⟩)))
local macro_rules | `(tactic| walk_at "x") => `(tactic| (repeat (first | walk_at "x1" | walk_at "xv" | walk_at "xi" | walk_at "xd")))
local macro_rules | `(tactic| walk_at "start") => `(tactic| (simp only [L2.start, List.map_cons, List.map_nil, List.length_cons, List.length_nil, Nat.reduceAdd, Nat.reduceSub, List.replicate, List.cons_append, List.nil_append, List.append_nil]))
local macro_rules | `(tactic| walk_at "isi") => `(tactic| first
  | refine Br.x_isi (b := true) (.base (.int _)) (by decide +kernel) ?_ | refine Br.x_isi (b := false) (.base (.int _)) (by decide +kernel) ?_
  | refine Br.x_isi (b := true) (.base (.bl _)) (by decide +kernel) ?_ | refine Br.x_isi (b := false) (.base (.bl _)) (by decide +kernel) ?_
  | refine Br.x_isi (b := false) (.base .non) (by decide +kernel) ?_
  | refine Br.x_isi (b := true) (.base (.str _)) (by decide +kernel) ?_ | refine Br.x_isi (b := false) (.base (.str _)) (by decide +kernel) ?_
  | refine Br.x_isi (b := true) (.base (.tup (by assumption))) (by decide +kernel) ?_ | refine Br.x_isi (b := false) (.base (.tup (by assumption))) (by decide +kernel) ?_
  | refine Br.x_isi (b := true) (.base (.lst (by assumption))) (by decide +kernel) ?_ | refine Br.x_isi (b := false) (.base (.lst (by assumption))) (by decide +kernel) ?_)
local macro_rules | `(tactic| walk_at "f") => `(tactic| (refine L2.iteF ?_; walk_at "x"))
local macro_rules | `(tactic| walk_at "t") => `(tactic| (refine L2.iteT ?_; walk_at "x"))
local macro_rules | `(tactic| walk_at "is") => `(tactic| (walk_at "isi"; walk_at "x"))
local macro_rules | `(tactic| walk_at "xb") => `(tactic| (simp only [Br.bindS, List.set_cons_zero, List.set_cons_succ]; walk_at "x"))

section
variable {P : Program} {w : World} {K : PySem.W.Frag} {mg : Str → Option Value} {base : Heap}

open Br.F

theorem step_short {m c i : Int} {es : List PyData} (h : es.length < 3) : stepD m c i (.tuple es) = false := by
  match es, h with
  | [], _ => rfl
  | [a], _ => cases a <;> rfl
  | [a, _], _ => cases a <;> rfl
theorem step_one {m c i : Int} {e0 e1 : PyData} {r : List PyData} (h : isBD c e1 = false) : stepD m c i (.tuple (e0 :: e1 :: r)) = false := by
  unfold stepD
  split
  · rename_i w x y he
    cases he
    rw [h, Bool.false_and, Bool.false_and]
    split
    · rfl
    · split <;> rfl
  · rename_i w x k fs he
    cases he
    rw [h, Bool.false_and]
    split <;> rfl
  · rename_i w x s tb y z he
    cases he
    unfold threeD
    rw [h, Bool.false_and, Bool.false_and, Bool.false_and]
    split <;> rfl
  · rfl
theorem step_str {m c i : Int} {e0 : PyData} {r : List PyData} (h1 : PyData.eqv e0 (.str "add") = false) (h2 : PyData.eqv e0 (.str "scale") = false) (h3 : PyData.eqv e0 (.str "swap") = false) (h4 : PyData.eqv e0 (.str "table") = false) : stepD m c i (.tuple (e0 :: r)) = false := by
  unfold stepD
  split
  · rename_i w x y he
    cases he
    rw [eqv_str] at h2 h3
    rw [if_neg (of_decide_eq_false h2), if_neg (of_decide_eq_false h3)]
  · rename_i w x k fs he
    cases he
    rw [eqv_str] at h1
    rw [if_neg (of_decide_eq_false h1)]
  · rename_i w x s tb y z he
    cases he
    rw [eqv_str] at h4
    rw [if_neg (of_decide_eq_false h4)]
  · rfl
theorem step_add {m c i t : Int} {e2 : PyData} {r : List PyData} (h : isBD c (.int t) = true) : stepD m c i (.tuple (.str "add" :: .int t :: e2 :: r)) = addD m c i (.str "add" :: .int t :: e2 :: r) := by
  match r with
  | [] => rfl
  | [fs] =>
    rw [st4, if_pos rfl, h, Bool.true_and]
    rfl
  | [_, _] => rfl
  | [_, _, _] => rfl
  | _ :: _ :: _ :: _ :: _ => rfl
theorem step_3 {m c i t : Int} {w : Str} {e2 : PyData} {r : List PyData} (hw : w = "scale" ∨ w = "swap") (h : r ≠ []) : stepD m c i (.tuple (.str w :: .int t :: e2 :: r)) = false := by
  match r, h with
  | [], h => exact absurd rfl h
  | [fs], _ =>
    rw [st4, if_neg]
    rcases hw with rfl | rfl <;> decide
  | [_, _], _ => rfl
  | [_, _, _], _ =>
    rw [st6, if_neg]
    rcases hw with rfl | rfl <;> decide
  | _ :: _ :: _ :: _ :: _, _ => rfl
theorem step_6 {m c i t : Int} {e2 : PyData} {r : List PyData} (h : r.length ≠ 3) : stepD m c i (.tuple (.str "table" :: .int t :: e2 :: r)) = false := by
  match r, h with
  | [], _ => rfl
  | [fs], _ => rfl
  | [_, _], _ => rfl
  | [_, _, _], h => exact absurd rfl h
  | _ :: _ :: _ :: _ :: _, _ => rfl
theorem sign_no {d : Addr} {H : Hp} {x : V} {e : PyData} {m : Nat} (m2 : 2 ≤ m) (g : DAt d H x e) (h : intB x 1 ((m : Int) - 1) = false) : signD (m : Int) e = false := by
  cases g with
  | int j =>
    have h : (decide (1 ≤ j) && decide (j ≤ (m : Int) - 1)) = false := h
    rw [← Bool.not_eq_true, Bool.and_eq_true, decide_eq_true_iff, decide_eq_true_iff] at h
    unfold signD
    rw [← Bool.not_eq_true, Bool.and_eq_true, Bool.or_eq_true, decide_eq_true_iff, decide_eq_true_iff]
    rintro ⟨_, h1 | h1⟩
    · have h1 : j = 1 := h1
      omega
    · have h1 : j = (m : Int) - 1 := h1
      omega
  | _ => rfl
theorem int_got {d : Addr} {H : Hp} {x : V} {e : PyData} {lo hi : Int} (g : DAt d H x e) (h : intB x lo hi = true) : ∃ j : Int, x = .int j ∧ e = .int j ∧ lo ≤ j ∧ j ≤ hi := by
  cases g with
  | int j =>
    have h : (decide (lo ≤ j) && decide (j ≤ hi)) = true := h
    rw [Bool.and_eq_true, decide_eq_true_iff, decide_eq_true_iff] at h
    exact ⟨j, rfl, rfl, h.1, h.2⟩
  | _ => cases h
theorem x_lenSet4 {K : PySem.W.Frag} {ta : TE} {σ : L2.St} {H : Hp} {Q : VK} (h : ta σ H fun x H1 => ∃ (l : Addr) (ns : List Int), x = V.ref l ∧ (SqL K H1 l (ns.map V.int) ∨ SqT K H1 l (ns.map V.int)) ∧ ns.length ≤ 4000 ∧ ∀ c : Nat, (c = ns.length ↔ ns.Nodup) → c ≤ ns.length → Q (.int (c : Nat)) H1) : tLenSet K ta σ H Q := h
theorem three_nd {t x y : Int} {n : Nat} (h : n = [t, x, y].length ↔ [t, x, y].Nodup) : decide ((n : Int) = 3) = (!decide (t = x) && (!decide (t = y) && !decide (x = y))) := by
  rw [Bool.eq_iff_iff, Bool.and_eq_true, Bool.and_eq_true, decide_eq_true_iff, Bool.not_eq_true', Bool.not_eq_true', Bool.not_eq_true', decide_eq_false_iff_not, decide_eq_false_iff_not, decide_eq_false_iff_not]
  have h3 : n = 3 ↔ [t, x, y].Nodup := h
  have e : [t, x, y].Nodup ↔ (t ≠ x ∧ t ≠ y ∧ x ≠ y) := by simp [and_assoc]
  rw [show ((n : Int) = 3 ↔ n = 3) by omega, h3, e]
def sp_law_is_step (K : PySem.W.Frag) : Sp := fun vs H Q _ => ∃ (d : Addr) (v : V) (e : PyData) (m : Nat) (c i : Int) (pr : Bool), vs = [v, .int (m : Int), .int c, .int i, .bl pr] ∧ DAt d H v e ∧ Sh e ∧ WdE e ∧ 2 ≤ m ∧ m ≤ 1000000000 ∧ ∀ H', Same H H' → Q (.bl (stepD (m : Int) c i e && (!tabW e || pr))) H'
theorem ok_law_is_step (T : Txt K mg) : FnOk P w K mg base CX0 4 T.a_law_is_step T.fd_law_is_step ["step", "modulus", "cells", "inputs", "prime"] (sp_law_is_step K) := by
  refine T.F_law_is_step.ok sc_law_is_step (fun vs H Q E h => ?_) (fun cdv A outer s H vs Q E hr h => ?_)
  · obtain ⟨d, v, e, m, c, i, pr, rfl, _⟩ := h
    rfl
  · obtain ⟨d, v, e, m, c, i, pr, rfl, hv, hsh0, hwd, m2, m9, q⟩ := h
    refine ⟨_, (pss_cons (ps_if (PW.pt (pw_or (pt_not (pt_val (pe_callB (id := "isinstance") (r := rIsi K) call_isi (by rfl) T.m_isinstance (by decide +kernel) (pa_cons (pv 0) (pa_cons (pe_bltn (v := .ty "tuple") (by rfl) T.m_tuple (by decide +kernel) rfl) pa_nil))))) (pw_or (pt_cmpR op_lt (pe_callB (id := "len") (r := rLen K) cr_len (by rfl) T.m_len PySem.boot_len (pa_cons (pv 0) pa_nil)) pe_int (nomark _)) (pw_or1 (pt_not (pt_val (pe_call (ok_law_integer T) (hr.mono (by decide)) (by rfl) T.g_law_integer T.F_law_integer.kp T.b_law_integer .nil pass0 (pa_cons (pe_ix (r := rIxT K) ix_tup (pv 0) pe_int (fun _ _ => rfl)) (pa_cons pe_int (pa_cons (pe_op op_sub (pv 2) pe_int) pa_nil))))))))))
      (pss_one (ps_ret pe_bl))
      pss_nil)
      (pss_cons (ps_if (pt_cmpR (op_eqD hr.units) (pe_ix (r := rIxT K) ix_tup (pv 0) pe_int (fun _ _ => rfl)) pe_str (nomark _))
      (pss_one (ps_ret (pe_call (ok_law_is_add T) hr (by rfl) T.g_law_is_add T.F_law_is_add.kp T.b_law_is_add .nil pass0 (pa_cons (pv 0) (pa_cons (pv 1) (pa_cons (pv 2) (pa_cons (pv 3) pa_nil)))))))
      pss_nil)
      (pss_cons (ps_if (pt_cmpR (op_eqD hr.units) (pe_ix (r := rIxT K) ix_tup (pv 0) pe_int (fun _ _ => rfl)) pe_str (nomark _))
      (pss_one (ps_ret (pe_and (pe_cmpR op_eq (pe_callB (id := "len") (r := rLen K) cr_len (by rfl) T.m_len PySem.boot_len (pa_cons (pv 0) pa_nil)) pe_int (nomark _)) (pe_and (pe_call (ok_law_integer T) (hr.mono (by decide)) (by rfl) T.g_law_integer T.F_law_integer.kp T.b_law_integer .nil pass0 (pa_cons (pe_ix (r := rIxT K) ix_tup (pv 0) pe_int (fun _ _ => rfl)) (pa_cons pe_int (pa_cons (pe_op op_sub (pv 1) pe_int) pa_nil)))) (pe_one (pe_cmpR op_eq (pe_call (ok_law_gcd T) (hr.mono (by decide)) (by rfl) T.g_law_gcd T.F_law_gcd.kp T.b_law_gcd .nil pass0 (pa_cons (pv 1) (pa_cons (pe_ix (r := rIxT K) ix_tup (pv 0) pe_int (fun _ _ => rfl)) pa_nil))) pe_int (nomark _)))))))
      pss_nil)
      (pss_cons (ps_if (pt_cmpR (op_eqD hr.units) (pe_ix (r := rIxT K) ix_tup (pv 0) pe_int (fun _ _ => rfl)) pe_str (nomark _))
      (pss_one (ps_ret (pe_and (pe_cmpR op_eq (pe_callB (id := "len") (r := rLen K) cr_len (by rfl) T.m_len PySem.boot_len (pa_cons (pv 0) pa_nil)) pe_int (nomark _)) (pe_and (pe_call (ok_law_integer T) (hr.mono (by decide)) (by rfl) T.g_law_integer T.F_law_integer.kp T.b_law_integer .nil pass0 (pa_cons (pe_ix (r := rIxT K) ix_tup (pv 0) pe_int (fun _ _ => rfl)) (pa_cons pe_int (pa_cons (pe_op op_sub (pv 2) pe_int) pa_nil)))) (pe_one (pe_cmpR op_ne (pe_ix (r := rIxT K) ix_tup (pv 0) pe_int (fun _ _ => rfl)) (pe_ix (r := rIxT K) ix_tup (pv 0) pe_int (fun _ _ => rfl)) (nomark _)))))))
      pss_nil)
      (pss_cons (ps_if (PW.pt (pw_or (pt_cmpR (op_neD hr.units) (pe_ix (r := rIxT K) ix_tup (pv 0) pe_int (fun _ _ => rfl)) pe_str (nomark _)) (pw_or (pt_cmpR op_ne (pe_callB (id := "len") (r := rLen K) cr_len (by rfl) T.m_len PySem.boot_len (pa_cons (pv 0) pa_nil)) pe_int (nomark _)) (pw_or1 (pt_not (pt_val (pv 4)))))))
      (pss_one (ps_ret pe_bl))
      pss_nil)
      (pss_cons (ps_if (PW.pt (pw_or (pt_not (pt_val (pe_call (ok_law_integer T) (hr.mono (by decide)) (by rfl) T.g_law_integer T.F_law_integer.kp T.b_law_integer .nil pass0 (pa_cons (pe_ix (r := rIxT K) ix_tup (pv 0) pe_int (fun _ _ => rfl)) (pa_cons pe_int (pa_cons (pe_op op_sub (pv 1) pe_int) pa_nil)))))) (pw_or1 (PW.pt (pw_and (pt_cmpR op_ne (pe_ix (r := rIxT K) ix_tup (pv 0) pe_int (fun _ _ => rfl)) pe_int (nomark _)) (pw_and1 (pt_cmpR op_ne (pe_ix (r := rIxT K) ix_tup (pv 0) pe_int (fun _ _ => rfl)) (pe_op op_sub (pv 1) pe_int) (nomark _))))))))
      (pss_one (ps_ret pe_bl))
      pss_nil)
      (pss_cons (ps_if (PW.pt (pw_or (pt_not (pt_val (pe_call (ok_law_integer T) (hr.mono (by decide)) (by rfl) T.g_law_integer T.F_law_integer.kp T.b_law_integer .nil pass0 (pa_cons (pe_ix (r := rIxT K) ix_tup (pv 0) pe_int (fun _ _ => rfl)) (pa_cons pe_int (pa_cons (pe_op op_sub (pv 2) pe_int) pa_nil)))))) (pw_or1 (pt_not (pt_val (pe_call (ok_law_integer T) (hr.mono (by decide)) (by rfl) T.g_law_integer T.F_law_integer.kp T.b_law_integer .nil pass0 (pa_cons (pe_ix (r := rIxT K) ix_tup (pv 0) pe_int (fun _ _ => rfl)) (pa_cons pe_int (pa_cons (pe_op op_sub (pv 2) pe_int) pa_nil)))))))))
      (pss_one (ps_ret pe_bl))
      pss_nil)
      (pss_one (ps_ret (pe_and (pe_call (ok_law_is_table T) (hr.mono (by decide)) (by rfl) T.g_law_is_table T.F_law_is_table.kp T.b_law_is_table .nil pass0 (pa_cons (pe_ix (r := rIxT K) ix_tup (pv 0) pe_int (fun _ _ => rfl)) (pa_cons (pv 1) pa_nil))) (pe_one (pe_cmpR op_eq (pe_lenSetA (by rfl) T.m_len (by rfl) T.m_set (pe_lst (pa_cons (pe_ix (r := rIxT K) ix_tup (pv 0) pe_int (fun _ _ => rfl)) (pa_cons (pe_ix (r := rIxT K) ix_tup (pv 0) pe_int (fun _ _ => rfl)) (pa_cons (pe_ix (r := rIxT K) ix_tup (pv 0) pe_int (fun _ _ => rfl)) pa_nil))))) pe_int (nomark _))))))))))))), ?_⟩
    walk_at "start"
    cases hv with
    | @tup a xs es h hs =>
      have hsh := hsh0.of_tup
      have hlen := hs.len
      have no : stepD (m : Int) c i (.tuple es) = false → ∀ H', Same H H' → Q (.bl false) H' := fun e H' s => by
        have := q H' s
        rw [e, Bool.false_and] at this
        exact this
      walk_at "x"
      walk_at "is"
      walk_at "f"
      refine x_lenT (st_of h) ?_
      walk_at "x"
      rw [hlen]
      refine x_ite (fun hc => ?_) (fun hc => ?_)
      · walk_at "t"
        exact no (step_short (by omega)) H (Same.refl _)
      obtain ⟨e0, e1, e2, r, rfl⟩ : ∃ e0 e1 e2 r, es = e0 :: e1 :: e2 :: r := by
        match es, hc with
        | a :: b :: c :: r, _ => exact ⟨a, b, c, r, rfl⟩
        | [], hc => simp at hc
        | [_], hc => simp at hc
        | [_, _], hc => simp at hc
      cases hs with
      | @cons x0 xr0 _ _ g0 gs =>
        cases gs with
        | @cons x1 xr1 _ _ g1 gs =>
          cases gs with
          | @cons x2 xr _ _ g2 gs =>
            have hrl := gs.len
            walk_at "x"
            refine x_ixT (st_of h) (atI_nat (j := 1) rfl) ?_
            walk_at "x"
            refine int_callD g1 ?_
            walk_at "x"
            refine x_iteBN (fun hb => ?_) (fun hb => ?_)
            · walk_at "x"
              exact no (step_one hb) H (Same.refl _)
            obtain ⟨t, rfl, t0, t1⟩ := isBD_int hb
            cases g1
            walk_at "x"
            refine x_ixT (st_of h) (atI_nat (j := 0) rfl) ?_
            walk_at "x"
            refine x_eqD g0 (hsh _ (by simp)) (by decide +kernel) ?_
            walk_at "x"
            by_cases w1 : PyData.eqv e0 (.str "add") = true
            · obtain rfl := eqv_no w1
              rw [w1]
              walk_at "t"
              refine ⟨d, a, _, (m : Int), c, i, t, rfl, .tup h (.cons g0 (.cons (.int t) (.cons g2 gs))), hsh0, by simp, rfl, fun H' s => ?_⟩
              have := q H' s
              rw [step_add hb, show (!tabW (.tuple (.str "add" :: .int t :: e2 :: r)) || pr) = true from rfl, Bool.and_true] at this
              exact this
            rw [Bool.not_eq_true] at w1
            rw [w1]
            walk_at "f"
            refine x_ixT (st_of h) (atI_nat (j := 0) rfl) ?_
            walk_at "x"
            refine x_eqD g0 (hsh _ (by simp)) (by decide +kernel) ?_
            walk_at "x"
            by_cases w2 : PyData.eqv e0 (.str "scale") = true
            · obtain rfl := eqv_no w2
              rw [w2]
              walk_at "t"
              refine x_lenT (st_of h) ?_
              walk_at "x"
              rw [hlen]
              by_cases hr0 : r = []
              · subst hr0
                cases gs
                rw [decide_eq_true (show (([PyData.str "scale", .int t, e2].length : Nat) : Int) = 3 from rfl)]
                have q2 : ∀ H', Same H H' → Q (.bl (isBD (m : Int) e2 && decide (((Nat.gcd (iD e2).natAbs (m : Int).natAbs : Nat) : Int) = 1))) H' := fun H' s => by
                  have := q H' s
                  rw [st3, if_pos rfl, hb, Bool.true_and, show (!tabW (.tuple [.str "scale", .int t, e2]) || pr) = true from rfl, Bool.and_true] at this
                  exact this
                walk_at "t"
                refine x_ixT (st_of h) (atI_nat (j := 2) rfl) ?_
                walk_at "x"
                refine int_callD g2 ?_
                refine x_blP ?_
                refine x_iteB (fun hb2 => ?_) (fun hb2 => ?_)
                · obtain ⟨j, rfl, j0, j1⟩ := isBD_int hb2
                  cases g2
                  rw [hb2, Bool.true_and] at q2
                  walk_at "x"
                  refine x_ixT (st_of h) (atI_nat (j := 2) rfl) ?_
                  walk_at "x"
                  refine ⟨(m : Int), j, rfl, by omega, by omega, by omega, by omega, ?_⟩
                  walk_at "x"
                  have e : ((Int.gcd (m : Int) j : Nat) : Int) = ((Nat.gcd (iD (.int j)).natAbs (m : Int).natAbs : Nat) : Int) := congrArg _ (Nat.gcd_comm _ _)
                  rw [e]
                  exact q2 H (Same.refl _)
                · rw [hb2, Bool.false_and] at q2
                  exact q2 H (Same.refl _)
              · have hr1 : 1 ≤ r.length := List.length_pos_iff.mpr hr0
                rw [decide_eq_false (by simp only [List.length_cons]; omega)]
                walk_at "f"
                exact no (step_3 (.inl rfl) hr0) H (Same.refl _)
            rw [Bool.not_eq_true] at w2
            rw [w2]
            walk_at "f"
            refine x_ixT (st_of h) (atI_nat (j := 0) rfl) ?_
            walk_at "x"
            refine x_eqD g0 (hsh _ (by simp)) (by decide +kernel) ?_
            walk_at "x"
            by_cases w3 : PyData.eqv e0 (.str "swap") = true
            · obtain rfl := eqv_no w3
              rw [w3]
              walk_at "t"
              refine x_lenT (st_of h) ?_
              walk_at "x"
              rw [hlen]
              by_cases hr0 : r = []
              · subst hr0
                cases gs
                rw [decide_eq_true (show (([PyData.str "swap", .int t, e2].length : Nat) : Int) = 3 from rfl)]
                have q2 : ∀ H', Same H H' → Q (.bl (isBD c e2 && !decide (t = iD e2))) H' := fun H' s => by
                  have := q H' s
                  rw [st3, if_neg (by decide), if_pos rfl, hb, Bool.true_and, show (!tabW (.tuple [.str "swap", .int t, e2]) || pr) = true from rfl, Bool.and_true] at this
                  exact this
                walk_at "t"
                refine x_ixT (st_of h) (atI_nat (j := 2) rfl) ?_
                walk_at "x"
                refine int_callD g2 ?_
                refine x_blP ?_
                refine x_iteB (fun hb2 => ?_) (fun hb2 => ?_)
                · obtain ⟨j, rfl, j0, j1⟩ := isBD_int hb2
                  cases g2
                  rw [hb2, Bool.true_and] at q2
                  walk_at "x"
                  refine x_ixT (st_of h) (atI_nat (j := 1) rfl) ?_
                  walk_at "x"
                  refine x_ixT (st_of h) (atI_nat (j := 2) rfl) ?_
                  walk_at "x"
                  exact q2 H (Same.refl _)
                · rw [hb2, Bool.false_and] at q2
                  exact q2 H (Same.refl _)
              · have hr1 : 1 ≤ r.length := List.length_pos_iff.mpr hr0
                rw [decide_eq_false (by simp only [List.length_cons]; omega)]
                walk_at "f"
                exact no (step_3 (.inr rfl) hr0) H (Same.refl _)
            rw [Bool.not_eq_true] at w3
            rw [w3]
            walk_at "f"
            refine x_ixT (st_of h) (atI_nat (j := 0) rfl) ?_
            walk_at "x"
            refine x_neD g0 (hsh _ (by simp)) (by decide +kernel) ?_
            walk_at "x"
            by_cases w4 : PyData.eqv e0 (.str "table") = true
            case neg =>
              rw [Bool.not_eq_true] at w4
              rw [w4]
              walk_at "t"
              walk_at "t"
              exact no (step_str w1 w2 w3 w4) H (Same.refl _)
            obtain rfl := eqv_no w4
            rw [w4]
            walk_at "f"
            refine x_lenT (st_of h) ?_
            walk_at "x"
            rw [hlen]
            refine x_iteN (fun hc6 => ?_) (fun hc6 => ?_)
            · walk_at "t"
              exact no (step_6 (fun z => hc6 (by simp only [List.length_cons]; omega))) H (Same.refl _)
            obtain ⟨tb, y, z, rfl⟩ : ∃ tb y z, r = [tb, y, z] := by
              match r, hc6 with
              | [a, b, c], _ => exact ⟨a, b, c, rfl⟩
              | [], hc => simp at hc
              | [_], hc => simp at hc
              | [_, _], hc => simp at hc
              | _ :: _ :: _ :: _ :: _, hc => simp at hc; omega
            cases gs with
            | @cons x3 xr3 _ _ g3 gs =>
              cases gs with
              | @cons x4 xr4 _ _ g4 gs =>
                cases gs with
                | @cons x5 xr5 _ _ g5 gs =>
                  cases gs
                  walk_at "x"
                  cases pr with
                  | false =>
                    walk_at "t"
                    have := q H (Same.refl _)
                    rw [show (!tabW (.tuple [.str "table", .int t, e2, tb, y, z]) || false) = false from rfl, Bool.and_false] at this
                    exact this
                  | true =>
                    walk_at "f"
                    have q3 : ∀ H', Same H H' → Q (.bl (threeD c (.int t) y z && (signD (m : Int) e2 && tabXD (m : Int) tb))) H' := fun H' s => by
                      have := q H' s
                      rw [st6, if_pos rfl, Bool.or_true, Bool.and_true] at this
                      exact this
                    refine x_ixT (st_of h) (atI_nat (j := 2) rfl) ?_
                    walk_at "x"
                    refine ⟨_, 1, (m : Int) - 1, rfl, g2.odd, ?_⟩
                    walk_at "x"
                    by_cases hs1 : intB x2 1 ((m : Int) - 1) = true
                    case neg =>
                      rw [Bool.not_eq_true] at hs1
                      rw [hs1]
                      walk_at "t"
                      walk_at "t"
                      rw [sign_no m2 g2 hs1, Bool.false_and, Bool.and_false] at q3
                      exact q3 H (Same.refl _)
                    rw [hs1]
                    obtain ⟨j, rfl, rfl, jl, jh⟩ := int_got g2 hs1
                    have sg : signD (m : Int) (.int j) = (decide (j = 1) || decide (j = (m : Int) - 1)) := by
                      unfold signD
                      rw [show isBD (m : Int) (.int j) = true from (by show (decide (0 ≤ j) && decide (j < (m : Int))) = true; rw [decide_eq_true (by omega), decide_eq_true (by omega)]; rfl), Bool.true_and]
                      rfl
                    rw [sg] at q3
                    walk_at "f"
                    refine x_ixT (st_of h) (atI_nat (j := 2) rfl) ?_
                    walk_at "x"
                    rcases (show (j ≠ 1 ∧ j ≠ (m : Int) - 1) ∨ j = 1 ∨ (j ≠ 1 ∧ j = (m : Int) - 1) by omega) with ⟨a1, a2⟩ | a1 | ⟨a1, a2⟩
                    · rw [decide_eq_false a1, decide_eq_false a2, Bool.false_or, Bool.false_and, Bool.and_false] at q3
                      rw [decide_eq_false a1]
                      walk_at "t"
                      refine x_ixT (st_of h) (atI_nat (j := 2) rfl) ?_
                      walk_at "x"
                      rw [decide_eq_false a2]
                      walk_at "t"
                      exact q3 H (Same.refl _)
                    rw [decide_eq_true a1, Bool.true_or, Bool.true_and] at q3
                    rw [decide_eq_true a1]
                    walk_at "f"
                    walk_at "f"
                    rotate_left
                    rw [decide_eq_true a2, Bool.or_true, Bool.true_and] at q3
                    rw [decide_eq_false a1]
                    walk_at "t"
                    refine x_ixT (st_of h) (atI_nat (j := 2) rfl) ?_
                    walk_at "x"
                    rw [decide_eq_true a2]
                    walk_at "f"
                    all_goals
                      refine x_ixT (st_of h) (atI_nat (j := 4) rfl) ?_
                      walk_at "x"
                      refine int_callD g4 ?_
                      walk_at "x"
                      by_cases b4 : isBD c y = true
                      case neg =>
                        rw [Bool.not_eq_true] at b4
                        rw [b4]
                        walk_at "t"
                        walk_at "t"
                        have e : threeD c (.int t) y z = false := by unfold threeD; rw [b4, Bool.false_and, Bool.and_false, Bool.false_and]
                        rw [e, Bool.false_and] at q3
                        exact q3 H (Same.refl _)
                      obtain ⟨jy, rfl, _, _⟩ := isBD_int b4
                      cases g4
                      rw [b4]
                      walk_at "f"
                      refine x_ixT (st_of h) (atI_nat (j := 5) rfl) ?_
                      walk_at "x"
                      refine int_callD g5 ?_
                      walk_at "x"
                      refine x_iteBN (fun b5 => ?_) (fun b5 => ?_)
                      · walk_at "x"
                        have e : threeD c (.int t) (.int jy) z = false := by unfold threeD; rw [b5, Bool.and_false, Bool.and_false, Bool.false_and]
                        rw [e, Bool.false_and] at q3
                        exact q3 H (Same.refl _)
                      obtain ⟨jz, rfl, _, _⟩ := isBD_int b5
                      cases g5
                      have eT : threeD c (.int t) (.int jy) (.int jz) = (!decide (t = jy) && (!decide (t = jz) && !decide (jy = jz))) := by
                        unfold threeD
                        rw [hb, b4, b5, Bool.true_and, Bool.true_and, Bool.true_and]
                        rfl
                      rw [eT] at q3
                      walk_at "x"
                      refine x_ixT (st_of h) (atI_nat (j := 3) rfl) ?_
                      walk_at "x"
                      refine ⟨d, _, tb, m, rfl, g3, (fun rs e => hwd _ rfl tb (by simp) rs e), fun H1 s1 => ?_⟩
                      refine x_blP ?_
                      refine x_iteB (fun bt => ?_) (fun bt => ?_)
                      · rw [bt, Bool.and_true] at q3
                        walk_at "x"
                        refine x_lenSet4 ?_
                        walk_at "x"
                        refine x_ixT (st_of (s1 _ _ h)) (atI_nat (j := 1) rfl) ?_
                        walk_at "x"
                        refine x_ixT (st_of (s1 _ _ h)) (atI_nat (j := 4) rfl) ?_
                        walk_at "x"
                        refine x_ixT (st_of (s1 _ _ h)) (atI_nat (j := 5) rfl) ?_
                        walk_at "x"
                        refine ⟨by show 3 ≤ sizeLine; decide, fun l hl => ?_⟩
                        refine ⟨l, [t, jy, jz], rfl, .inl (sq_of upd_same), by show 3 ≤ 4000; decide, fun n hn _ => ?_⟩
                        walk_at "x"
                        rw [three_nd hn]
                        exact q3 _ (s1.trans (same_upd hl))
                      · rw [bt, Bool.and_false] at q3
                        exact q3 H1 s1
    | lst hd h hs =>
      walk_at "x"
      walk_at "is"
      walk_at "t"
      have := q H (Same.refl _)
      exact this
    | int i =>
      walk_at "x"
      walk_at "is"
      walk_at "t"
      have := q H (Same.refl _)
      exact this
    | bl b =>
      walk_at "x"
      walk_at "is"
      walk_at "t"
      have := q H (Same.refl _)
      exact this
    | non =>
      walk_at "x"
      walk_at "is"
      walk_at "t"
      have := q H (Same.refl _)
      exact this
    | str z =>
      walk_at "x"
      walk_at "is"
      walk_at "t"
      have := q H (Same.refl _)
      exact this


end
end Br
namespace Br
open PySem PySem.Spec PyProof.Rows L2
local macro_rules | `(tactic| walk_at "x1") => `(tactic| (with_reducible first
  | refine Br.x_seq ?_ | refine Br.x_set ?_ | refine Br.x_asg ?_ | refine Br.x_next ?_ | refine Br.x_ret ?_ | refine Br.x_retN ?_ | refine Br.x_drop ?_ | refine Br.x_if ?_ | refine Br.x_brk ?_ | refine Br.x_cont ?_
  | refine Br.x_c ?_ | refine Br.x_op ?_ | refine Br.x_un ?_ | refine Br.x_I0 ?_ | refine Br.x_U ?_ | refine Br.x_EqI ?_ | refine Br.x_NeI ?_ | refine Br.x_EqB ?_ | refine Br.x_iN ?_ | refine Br.x_int1 ?_ | refine Br.x_min2 ?_ | refine Br.x_max2 ?_ | refine Br.x_nN ?_ | refine Br.x_ifE ?_
  | refine Br.x_test (b := ()) ?_ | refine Br.x_tB ?_ | refine Br.x_bl ?_ | refine Br.x_and ?_ | refine Br.x_or ?_ | refine Br.x_not ?_ | refine Br.x_andV ?_ | refine Br.x_orV ?_ | refine Br.x_notV ?_ | refine Br.x_blP ?_
  | refine Br.x_nil ?_ | refine Br.x_cons ?_ | refine Br.x_call ?_ | refine Br.x_CB ?_ | refine Br.x_BM ?_ | refine Br.x_tup ?_ | refine Br.x_lst ?_ | refine Br.x_chain ?_ | refine Br.x_par ?_ | refine Br.x_gSub ?_ | refine Br.x_gName ?_ | refine Br.x_fld ?_ | refine Br.x_fldS ?_ | refine Br.x_match ?_ | refine Br.x_else ?_ | refine Br.x_noCase ?_))
local macro_rules | `(tactic| walk_at "xv") => `(tactic| ((with_reducible refine' Br.x_var ?hvar ?_); (case hvar => rfl)))
local macro_rules | `(tactic| walk_at "xd") => `(tactic| (dsimp only [List.set_cons_zero, List.set_cons_succ, List.cons_append, List.nil_append, List.append_nil]))
local macro_rules | `(tactic| walk_at "xi") => `(tactic| ((with_reducible refine Br.x_I ?hside ?_); (case hside => first | exact Br.mul_r (by decide) (by decide) | exact Br.mul_l (by decide) (by decide) | exact Br.mul_l (by omega) (by omega) | exact Br.mul_r (by omega) (by omega) | (show (0 : Int) < _; first | decide | omega) | exact ⟨by decide, by decide⟩ | exact ⟨by omega, by omega⟩ | exact ⟨by decide, by decide, by decide⟩)))
local macro_rules | `(tactic| walk_at "x") => `(tactic| (repeat (first | walk_at "x1" | walk_at "xv" | walk_at "xi" | walk_at "xd")))
local macro_rules | `(tactic| walk_at "start") => `(tactic| (simp only [L2.start, List.map_cons, List.map_nil, List.length_cons, List.length_nil, Nat.reduceAdd, Nat.reduceSub, List.replicate, List.cons_append, List.nil_append, List.append_nil]))
local macro_rules | `(tactic| walk_at "isi") => `(tactic| first
  | refine Br.x_isi (b := true) (.base (.int _)) (by decide +kernel) ?_ | refine Br.x_isi (b := false) (.base (.int _)) (by decide +kernel) ?_
  | refine Br.x_isi (b := true) (.base (.bl _)) (by decide +kernel) ?_ | refine Br.x_isi (b := false) (.base (.bl _)) (by decide +kernel) ?_
  | refine Br.x_isi (b := false) (.base .non) (by decide +kernel) ?_
  | refine Br.x_isi (b := true) (.base (.str _)) (by decide +kernel) ?_ | refine Br.x_isi (b := false) (.base (.str _)) (by decide +kernel) ?_
  | refine Br.x_isi (b := true) (.base (.tup (by assumption))) (by decide +kernel) ?_ | refine Br.x_isi (b := false) (.base (.tup (by assumption))) (by decide +kernel) ?_
  | refine Br.x_isi (b := true) (.base (.lst (by assumption))) (by decide +kernel) ?_ | refine Br.x_isi (b := false) (.base (.lst (by assumption))) (by decide +kernel) ?_)
local macro_rules | `(tactic| walk_at "f") => `(tactic| (refine L2.iteF ?_; walk_at "x"))
local macro_rules | `(tactic| walk_at "t") => `(tactic| (refine L2.iteT ?_; walk_at "x"))
local macro_rules | `(tactic| walk_at "is") => `(tactic| (walk_at "isi"; walk_at "x"))
local macro_rules | `(tactic| walk_at "xb") => `(tactic| (simp only [Br.bindS, List.set_cons_zero, List.set_cons_succ]; walk_at "x"))

section
variable {P : Program} {w : World} {K : PySem.W.Frag} {mg : Str → Option Value} {base : Heap}

open Br.F

theorem intB_get {v : V} {lo hi : Int} (h : intB v lo hi = true) : ∃ j : Int, v = .int j ∧ lo ≤ j ∧ j ≤ hi := by
  cases v with
  | int j =>
    have h : (decide (lo ≤ j) && decide (j ≤ hi)) = true := h
    rw [Bool.and_eq_true, decide_eq_true_iff, decide_eq_true_iff] at h
    exact ⟨j, rfl, h.1, h.2⟩
  | _ => cases h
theorem intB_mk {j lo hi : Int} (h1 : lo ≤ j) (h2 : j ≤ hi) : intB (.int j) lo hi = true := by
  show (decide (lo ≤ j) && decide (j ≤ hi)) = true
  rw [decide_eq_true h1, decide_eq_true h2]
  rfl
theorem tab_six {m c i : Int} {x : PyData} (h : stepD m c i x = true) (t : tabW x = true) : ∃ fs, x = .tuple fs ∧ fs.length = 6 := by
  unfold stepD at h
  split at h
  · rename_i w x y
    have t : w = "table" := of_decide_eq_true t
    subst t
    rw [if_neg (by decide), if_neg (by decide)] at h
    cases h
  · rename_i w x k fs
    have t : w = "table" := of_decide_eq_true t
    subst t
    rw [if_neg (by decide)] at h
    cases h
  · exact ⟨_, rfl, rfl⟩
  · cases h
def sp_law_is_program (K : PySem.W.Frag) : Sp := fun vs H Q _ => ∃ (d : Addr) (vm vc vi v : V) (e : PyData), vs = [vm, vc, vi, v] ∧ Odd H vm ∧ Odd H vc ∧ Odd H vi ∧ DAt d H v e ∧ (∀ es, e = .list es → es.length ≤ 20000 ∧ ∀ x, x ∈ es → Sh x ∧ WdE x) ∧
  ∀ b H', Same H H' → (b = true ↔ ∃ m c i es, MadeOk vm vc vi e m c i es) → Q (.bl b) H'
theorem ok_law_is_program (T : Txt K mg) : FnOk P w K mg base CX0 5 T.a_law_is_program T.fd_law_is_program ["modulus", "cells", "inputs", "steps"] (sp_law_is_program K) := by
  refine T.F_law_is_program.ok sc_law_is_program (fun vs H Q E h => ?_) (fun cdv A outer s H vs Q E hr h => ?_)
  · obtain ⟨d, vm, vc, vi, v, e, rfl, _⟩ := h
    rfl
  · obtain ⟨d, vm, vc, vi, v, e, rfl, hm, hc, hi, hv, hsz, q⟩ := h
    have no : (∀ m c i es, ¬ MadeOk vm vc vi e m c i es) → ∀ H', Same H H' → Q (.bl false) H' := fun h H' s => q false H' s ⟨fun z => (nomatch z), fun ⟨m, c, i, es, z⟩ => absurd z (h m c i es)⟩
    refine ⟨_, (pss_cons (ps_if (PW.pt (pw_or (pt_not (pt_val (pe_call (ok_law_integer T) (hr.mono (by decide)) (by rfl) T.g_law_integer T.F_law_integer.kp T.b_law_integer .nil pass0 (pa_cons (pv 0) (pa_cons pe_int (pa_cons (pe_op op_pow pe_int pe_int) pa_nil)))))) (pw_or (pt_not (pt_val (pe_call (ok_law_integer T) (hr.mono (by decide)) (by rfl) T.g_law_integer T.F_law_integer.kp T.b_law_integer .nil pass0 (pa_cons (pv 1) (pa_cons pe_int (pa_cons pe_int pa_nil)))))) (pw_or1 (pt_not (pt_val (pe_call (ok_law_integer T) (hr.mono (by decide)) (by rfl) T.g_law_integer T.F_law_integer.kp T.b_law_integer .nil pass0 (pa_cons (pv 2) (pa_cons pe_int (pa_cons pe_int pa_nil))))))))))
      (pss_one (ps_ret pe_bl))
      pss_nil)
      (pss_cons (ps_if (PW.pt (pw_or (pt_not (pt_val (pe_callB (id := "isinstance") (r := rIsi K) call_isi (by rfl) T.m_isinstance (by decide +kernel) (pa_cons (pv 3) (pa_cons (pe_bltn (v := .ty "list") (by rfl) T.m_list (by decide +kernel) rfl) pa_nil))))) (pw_or1 (pt_cmpR op_gt (pe_callB (id := "len") (r := rLen K) cr_len (by rfl) T.m_len PySem.boot_len (pa_cons (pv 3) pa_nil)) pe_int (nomark _)))))
      (pss_one (ps_ret pe_bl))
      pss_nil)
      (pss_cons (ps_set (i := 4) sc_law_is_program.nd rfl (.inl rfl) pe_bl)
      (pss_cons (ps_for PassesOwn.never rfl (pi_list (pv 3)) (pg_name (i := 5) sc_law_is_program.nd rfl (Or.inl rfl))
      (pss_one (ps_if (PW.pt (pw_and (pt_val (pe_callB (id := "isinstance") (r := rIsi K) call_isi (by rfl) T.m_isinstance (by decide +kernel) (pa_cons (pv 5) (pa_cons (pe_bltn (v := .ty "tuple") (by rfl) T.m_tuple (by decide +kernel) rfl) pa_nil)))) (pw_and (pt_cmpR op_eq (pe_callB (id := "len") (r := rLen K) cr_len (by rfl) T.m_len PySem.boot_len (pa_cons (pv 5) pa_nil)) pe_int (nomark _)) (pw_and1 (pt_not (pt_val (pv 4)))))))
      (pss_one (ps_set (i := 4) sc_law_is_program.nd rfl (.inl rfl) (pe_call (ok_law_prime_modulus T) (hr.mono (by decide)) (by rfl) T.g_law_prime_modulus T.F_law_prime_modulus.kp T.b_law_prime_modulus .nil pass0 (pa_cons (pv 0) pa_nil))))
      pss_nil)))
      (pss_cons (ps_for PassesOwn.never rfl (pi_list (pv 3)) (pg_name (i := 5) sc_law_is_program.nd rfl (Or.inl rfl))
      (pss_one (ps_if (pt_not (pt_val (pe_call (ok_law_is_step T) hr (by rfl) T.g_law_is_step T.F_law_is_step.kp T.b_law_is_step .nil pass0 (pa_cons (pv 5) (pa_cons (pv 0) (pa_cons (pv 1) (pa_cons (pv 2) (pa_cons (pv 4) pa_nil))))))))
      (pss_one (ps_ret pe_bl))
      pss_nil)))
      (pss_one (ps_ret pe_bl))))))), ?_⟩
    walk_at "start"
    walk_at "x"
    refine ⟨vm, 2, _, rfl, hm, ?_⟩
    walk_at "x"
    refine x_iteBN (fun h1 => ?_) (fun h1 => ?_)
    · walk_at "t"
      refine no (fun m c i es z => ?_) H (Same.refl _)
      obtain ⟨⟨rfl, _, _, m2, m9, _⟩, _⟩ := z
      have h1 : intB (.int (m : Int)) 2 1000000000 = false := h1
      rw [intB_mk (by omega) (by omega)] at h1
      cases h1
    have h1 : intB vm 2 1000000000 = true := h1
    obtain ⟨j, rfl, j0, j1⟩ := intB_get h1
    obtain ⟨m, rfl⟩ : ∃ m : Nat, j = (m : Int) := ⟨j.toNat, by omega⟩
    walk_at "x"
    refine ⟨vc, 1, 60, rfl, hc, ?_⟩
    walk_at "x"
    refine x_iteBN (fun h2 => ?_) (fun h2 => ?_)
    · walk_at "t"
      refine no (fun m c i es z => ?_) H (Same.refl _)
      obtain ⟨⟨_, rfl, _, _, _, c1, c60, _⟩, _⟩ := z
      rw [intB_mk (by omega) (by omega)] at h2
      cases h2
    obtain ⟨j, rfl, k0, k1⟩ := intB_get h2
    obtain ⟨c, rfl⟩ : ∃ c : Nat, j = (c : Int) := ⟨j.toNat, by omega⟩
    walk_at "x"
    refine ⟨vi, 0, 60, rfl, hi, ?_⟩
    walk_at "x"
    refine x_iteBN (fun h3 => ?_) (fun h3 => ?_)
    · walk_at "x"
      refine no (fun m c i es z => ?_) H (Same.refl _)
      obtain ⟨⟨_, _, rfl, _, _, _, _, i60⟩, _⟩ := z
      rw [intB_mk (by omega) (by omega)] at h3
      cases h3
    obtain ⟨j, rfl, n0, n1⟩ := intB_get h3
    obtain ⟨i, rfl⟩ : ∃ i : Nat, j = (i : Int) := ⟨j.toNat, by omega⟩
    walk_at "x"
    cases hv with
    | @lst L xs es hd h hs =>
      obtain ⟨hl2, hsh⟩ := hsz es rfl
      have hlen := hs.len
      walk_at "is"
      walk_at "f"
      refine x_len (sq_of h) ?_
      walk_at "x"
      refine x_ite (fun hc => ?_) (fun hc => ?_)
      · omega
      walk_at "x"
      refine x_forI (J := Itl K L) (n := xs.length) (G := fun H => SqL K H L xs) (fun R r => ⟨_, rfl, L, rfl, ⟨_, sq_of h⟩, r⟩) walk_list (fun k σ' H' => Same H H' ∧ ∃ (pr : Bool) (v5 : Option V), σ' = [some (.int (m : Int)), some (.int (c : Int)), some (.int (i : Int)), some (.ref L), some (.bl pr), v5] ∧ (pr = true → IsPrime m) ∧ (∀ j x, j < k → es[j]? = some x → (∃ fs, x = .tuple fs ∧ fs.length = 6) → IsPrime m → pr = true)) ⟨Same.refl _, false, _, rfl, (fun z => nomatch z), fun j x hj => absurd hj (Nat.not_lt_zero j)⟩ (fun k σ' H' _ z => sq_of (z.1 _ _ h)) ?_ ?_
      · rintro k y σ' H' H2 hk ⟨hs', pr, v5, rfl, p1, p2⟩ ⟨rfl, gy⟩
        obtain ⟨f, hf, hyf⟩ := hs.get gy
        have hyf := DAt.same hs' f hyf
        have stay : (¬ ∃ fs, f = .tuple fs ∧ fs.length = 6) ∨ pr = true → ∀ j x, j < k + 1 → es[j]? = some x → (∃ fs, x = .tuple fs ∧ fs.length = 6) → IsPrime m → pr = true := fun hn j x hj hx h6 hp => by
          by_cases e : j = k
          · subst e
            rw [hf] at hx
            cases hx
            rcases hn with hn | hn
            · exact absurd h6 hn
            · exact hn
          · exact p2 j x (by omega) hx h6 hp
        cases hyf with
        | @tup ra rx fs hr' hrs =>
          have hrl := hrs.len
          walk_at "x"
          walk_at "is"
          walk_at "t"
          refine x_lenT (st_of hr') ?_
          walk_at "x"
          rw [hrl]
          by_cases h6 : fs.length = 6
          · rw [decide_eq_true (show (fs.length : Int) = 6 by omega)]
            walk_at "t"
            cases pr with
            | false =>
              walk_at "t"
              refine ⟨m, rfl, by omega, by omega, fun b hb => ?_⟩
              walk_at "x"
              exact ⟨hs', b, _, rfl, hb.mp, fun j x hj hx _ hp => hb.mpr hp⟩
            | true =>
              walk_at "f"
              exact ⟨hs', true, _, rfl, p1, stay (.inr rfl)⟩
          · rw [decide_eq_false (show ¬ (fs.length : Int) = 6 by omega)]
            walk_at "f"
            exact ⟨hs', pr, _, rfl, p1, stay (.inl fun ⟨gs, e1, e2⟩ => by cases e1; exact h6 e2)⟩
        | lst hd2 h2 hs2 =>
          walk_at "x"
          walk_at "is"
          walk_at "f"
          exact ⟨hs', pr, _, rfl, p1, stay (.inl fun ⟨gs, e1, e2⟩ => by cases e1)⟩
        | int i =>
          walk_at "x"
          walk_at "is"
          walk_at "f"
          exact ⟨hs', pr, _, rfl, p1, stay (.inl fun ⟨gs, e1, e2⟩ => by cases e1)⟩
        | bl b =>
          walk_at "x"
          walk_at "is"
          walk_at "f"
          exact ⟨hs', pr, _, rfl, p1, stay (.inl fun ⟨gs, e1, e2⟩ => by cases e1)⟩
        | non =>
          walk_at "x"
          walk_at "is"
          walk_at "f"
          exact ⟨hs', pr, _, rfl, p1, stay (.inl fun ⟨gs, e1, e2⟩ => by cases e1)⟩
        | str z =>
          walk_at "x"
          walk_at "is"
          walk_at "f"
          exact ⟨hs', pr, _, rfl, p1, stay (.inl fun ⟨gs, e1, e2⟩ => by cases e1)⟩
      rintro σ' H3 ⟨s3, pr, v5, rfl, p1, p2⟩
      have p2 : ∀ x, x ∈ es → (∃ fs, x = .tuple fs ∧ fs.length = 6) → IsPrime m → pr = true := fun x hx => by
        obtain ⟨j, hj⟩ := List.getElem?_of_mem hx
        exact p2 j x (by have := (List.getElem?_eq_some_iff.mp hj).1; omega) hj
      have hm0 : SizesOk (.int (m : Int)) (.int (c : Int)) (.int (i : Int)) m c i := ⟨rfl, rfl, rfl, by omega, by omega, by omega, by omega, by omega⟩
      have hL3 := s3 _ _ h
      walk_at "x"
      refine x_forI (J := Itl K L) (n := xs.length) (G := fun H => SqL K H L xs) (fun R r => ⟨_, rfl, L, rfl, ⟨_, sq_of hL3⟩, r⟩) walk_list (fun k σ' H' => Same H3 H' ∧ (∃ (v5 : Option V), σ' = [some (.int (m : Int)), some (.int (c : Int)), some (.int (i : Int)), some (.ref L), some (.bl pr), v5]) ∧ (∀ j x, j < k → es[j]? = some x → (stepD (m : Int) (c : Int) (i : Int) x && (!tabW x || pr)) = true)) ⟨Same.refl _, ⟨_, rfl⟩, fun j x hj => absurd hj (Nat.not_lt_zero j)⟩ (fun k σ' H' _ z => sq_of (z.1 _ _ hL3)) ?_ ?_
      · rintro k y σ' H' H2 hk ⟨hs', ⟨v5, rfl⟩, hall⟩ ⟨rfl, gy⟩
        obtain ⟨f, hf, hyf⟩ := hs.get gy
        have hyf := DAt.same (s3.trans hs') f hyf
        have hfm := List.mem_of_getElem? hf
        walk_at "x"
        refine ⟨d, y, f, m, (c : Int), (i : Int), pr, rfl, hyf, (hsh f hfm).1, (hsh f hfm).2, by omega, by omega, fun H4 s4 => ?_⟩
        walk_at "x"
        refine x_iteBN (fun hb => ?_) (fun hb => ?_)
        · walk_at "x"
          refine no (fun m' c' i' es' z => ?_) H4 ((s3.trans hs').trans s4)
          obtain ⟨⟨e1, e2, e3, _⟩, e4, z1, z2⟩ := z
          injection e1 with e1
          injection e2 with e2
          injection e3 with e3
          obtain rfl : m = m' := by omega
          obtain rfl : c = c' := by omega
          obtain rfl : i = i' := by omega
          cases e4
          have hst := z1 f hfm
          rw [hst, Bool.true_and] at hb
          have ht : tabW f = true := by
            cases e : tabW f with
            | true => rfl
            | false => rw [e] at hb; cases hb
          have := p2 f hfm (tab_six hst ht) (z2 ⟨f, hfm, ht⟩)
          rw [this, Bool.or_true] at hb
          cases hb
        · walk_at "x"
          refine ⟨hs'.trans s4, ⟨_, rfl⟩, fun j x hj hx => ?_⟩
          by_cases e : j = k
          · subst e
            rw [hf] at hx
            cases hx
            exact hb
          · exact hall j x (by omega) hx
      · rintro σ' H' ⟨hs', ⟨v5, rfl⟩, hall⟩
        walk_at "x"
        have hall : ∀ x, x ∈ es → (stepD (m : Int) (c : Int) (i : Int) x && (!tabW x || pr)) = true := fun x hx => by
          obtain ⟨j, hj⟩ := List.getElem?_of_mem hx
          exact hall j x (by have := (List.getElem?_eq_some_iff.mp hj).1; omega) hj
        refine q true H' (s3.trans hs') ⟨fun _ => ⟨m, c, i, es, hm0, rfl, fun x hx => (Bool.and_eq_true _ _ ▸ hall x hx).1, fun ⟨x, hx, ht⟩ => ?_⟩, fun _ => rfl⟩
        have := hall x hx
        rw [ht, Bool.and_eq_true] at this
        exact p1 this.2
    | tup h2 hs2 =>
      walk_at "is"
      walk_at "t"
      walk_at "t"
      exact no (fun m' c' i' es' z => by cases z.2.1) H (Same.refl _)
    | int i =>
      walk_at "is"
      walk_at "t"
      walk_at "t"
      exact no (fun m' c' i' es' z => by cases z.2.1) H (Same.refl _)
    | bl b =>
      walk_at "is"
      walk_at "t"
      walk_at "t"
      exact no (fun m' c' i' es' z => by cases z.2.1) H (Same.refl _)
    | non =>
      walk_at "is"
      walk_at "t"
      walk_at "t"
      exact no (fun m' c' i' es' z => by cases z.2.1) H (Same.refl _)
    | str z =>
      walk_at "is"
      walk_at "t"
      walk_at "t"
      exact no (fun m' c' i' es' z => by cases z.2.1) H (Same.refl _)


end
end Br
namespace Br
open PySem PySem.Spec PyProof.Rows L2
local macro_rules | `(tactic| walk_at "x1") => `(tactic| (with_reducible first
  | refine Br.x_seq ?_ | refine Br.x_set ?_ | refine Br.x_asg ?_ | refine Br.x_next ?_ | refine Br.x_ret ?_ | refine Br.x_retN ?_ | refine Br.x_drop ?_ | refine Br.x_if ?_ | refine Br.x_brk ?_ | refine Br.x_cont ?_
  | refine Br.x_c ?_ | refine Br.x_op ?_ | refine Br.x_un ?_ | refine Br.x_I0 ?_ | refine Br.x_U ?_ | refine Br.x_EqI ?_ | refine Br.x_NeI ?_ | refine Br.x_EqB ?_ | refine Br.x_iN ?_ | refine Br.x_int1 ?_ | refine Br.x_min2 ?_ | refine Br.x_max2 ?_ | refine Br.x_nN ?_ | refine Br.x_ifE ?_
  | refine Br.x_test (b := ()) ?_ | refine Br.x_tB ?_ | refine Br.x_bl ?_ | refine Br.x_and ?_ | refine Br.x_or ?_ | refine Br.x_not ?_ | refine Br.x_andV ?_ | refine Br.x_orV ?_ | refine Br.x_notV ?_ | refine Br.x_blP ?_
  | refine Br.x_nil ?_ | refine Br.x_cons ?_ | refine Br.x_call ?_ | refine Br.x_CB ?_ | refine Br.x_BM ?_ | refine Br.x_tup ?_ | refine Br.x_lst ?_ | refine Br.x_chain ?_ | refine Br.x_par ?_ | refine Br.x_gSub ?_ | refine Br.x_gName ?_ | refine Br.x_fld ?_ | refine Br.x_fldS ?_ | refine Br.x_match ?_ | refine Br.x_else ?_ | refine Br.x_noCase ?_))
local macro_rules | `(tactic| walk_at "xv") => `(tactic| ((with_reducible refine' Br.x_var ?hvar ?_); (case hvar => rfl)))
local macro_rules | `(tactic| walk_at "xd") => `(tactic| (dsimp only [List.set_cons_zero, List.set_cons_succ, List.cons_append, List.nil_append, List.append_nil]))
local macro_rules | `(tactic| walk_at "xi") => `(tactic| ((with_reducible refine Br.x_I ?hside ?_); (case hside => first | exact Br.mul_r (by decide) (by decide) | exact Br.mul_l (by decide) (by decide) | exact Br.mul_l (by omega) (by omega) | exact Br.mul_r (by omega) (by omega) | (show (0 : Int) < _; first | decide | omega) | exact ⟨by decide, by decide⟩ | exact ⟨by omega, by omega⟩ | exact ⟨by decide, by decide, by decide⟩)))
local macro_rules | `(tactic| walk_at "x") => `(tactic| (repeat (first | walk_at "x1" | walk_at "xv" | walk_at "xi" | walk_at "xd")))
local macro_rules | `(tactic| walk_at "start") => `(tactic| (simp only [L2.start, List.map_cons, List.map_nil, List.length_cons, List.length_nil, Nat.reduceAdd, Nat.reduceSub, List.replicate, List.cons_append, List.nil_append, List.append_nil]))
local macro_rules | `(tactic| walk_at "isi") => `(tactic| first
  | refine Br.x_isi (b := true) (.base (.int _)) (by decide +kernel) ?_ | refine Br.x_isi (b := false) (.base (.int _)) (by decide +kernel) ?_
  | refine Br.x_isi (b := true) (.base (.bl _)) (by decide +kernel) ?_ | refine Br.x_isi (b := false) (.base (.bl _)) (by decide +kernel) ?_
  | refine Br.x_isi (b := false) (.base .non) (by decide +kernel) ?_
  | refine Br.x_isi (b := true) (.base (.str _)) (by decide +kernel) ?_ | refine Br.x_isi (b := false) (.base (.str _)) (by decide +kernel) ?_
  | refine Br.x_isi (b := true) (.base (.tup (by assumption))) (by decide +kernel) ?_ | refine Br.x_isi (b := false) (.base (.tup (by assumption))) (by decide +kernel) ?_
  | refine Br.x_isi (b := true) (.base (.lst (by assumption))) (by decide +kernel) ?_ | refine Br.x_isi (b := false) (.base (.lst (by assumption))) (by decide +kernel) ?_)
local macro_rules | `(tactic| walk_at "f") => `(tactic| (refine L2.iteF ?_; walk_at "x"))
local macro_rules | `(tactic| walk_at "t") => `(tactic| (refine L2.iteT ?_; walk_at "x"))
local macro_rules | `(tactic| walk_at "is") => `(tactic| (walk_at "isi"; walk_at "x"))
local macro_rules | `(tactic| walk_at "xb") => `(tactic| (simp only [Br.bindS, List.set_cons_zero, List.set_cons_succ]; walk_at "x"))

section
variable {P : Program} {w : World} {K : PySem.W.Frag} {mg : Str → Option Value} {base : Heap}

open Br.F
abbrev RetH (d n : Addr) (P : V → Hp → Prop) (H : Hp) (Q : VK) : Prop := ∀ v H', P v H' → Dr H' d n → Keep d H H' → Q v H'
theorem keep_tups {d n : Addr} {H H' : Hp} (k : Keep d H H') (h : Dr H d n) : Tups H H' := by
  obtain ⟨_, _, h, _⟩ := h
  exact Tups.keep k h
theorem wrap_mod {x : Int} {c : Nat} (h0 : 0 ≤ x) (h1 : x < 2 * (c : Int)) : (x % (c : Int) = x ∧ x < c) ∨ (x % (c : Int) = x - c ∧ (c : Int) ≤ x) := by
  by_cases h : x < c
  · exact .inl ⟨Int.emod_eq_of_lt h0 h, h⟩
  · refine .inr ⟨?_, by omega⟩
    rw [← Int.sub_emod_right, Int.emod_eq_of_lt (by omega) (by omega)]
theorem wrap_ne {t c : Nat} {k : Int} (ht : t < c) (h0 : 0 ≤ k) (h1 : k < (c : Int) - 1) : ∃ j : Nat, ((t : Int) + 1 + k) % (c : Int) = (j : Int) ∧ j < c ∧ j ≠ t := by
  rcases wrap_mod (x := (t : Int) + 1 + k) (c := c) (by omega) (by omega) with ⟨e, h⟩ | ⟨e, h⟩
  · exact ⟨((t : Int) + 1 + k).toNat, by omega, by omega, by omega⟩
  · exact ⟨((t : Int) + 1 + k - c).toNat, by omega, by omega, by omega⟩
theorem wrap_two {t c : Nat} {o l : Int} (ht : t < c) (h0 : 1 ≤ o) (h1 : o < l) (h2 : l < c) : ∃ a b : Nat, ((t : Int) + o) % (c : Int) = (a : Int) ∧ ((t : Int) + l) % (c : Int) = (b : Int) ∧ a < c ∧ b < c ∧ t ≠ a ∧ t ≠ b ∧ a ≠ b := by
  rcases wrap_mod (x := (t : Int) + o) (c := c) (by omega) (by omega) with ⟨e, h⟩ | ⟨e, h⟩ <;> rcases wrap_mod (x := (t : Int) + l) (c := c) (by omega) (by omega) with ⟨e2, h2⟩ | ⟨e2, h2⟩
  · exact ⟨((t : Int) + o).toNat, ((t : Int) + l).toNat, by omega, by omega, by omega, by omega, by omega, by omega, by omega⟩
  · exact ⟨((t : Int) + o).toNat, ((t : Int) + l - c).toNat, by omega, by omega, by omega, by omega, by omega, by omega, by omega⟩
  · omega
  · exact ⟨((t : Int) + o - c).toNat, ((t : Int) + l - c).toNat, by omega, by omega, by omega, by omega, by omega, by omega, by omega⟩
theorem gcd_pred {m : Int} : Int.gcd (m - 1) m = 1 := by
  have h1 := Int.gcd_dvd_left (a := m - 1) (b := m)
  have h2 := Int.gcd_dvd_right (a := m - 1) (b := m)
  have h3 : ((Int.gcd (m - 1) m : Nat) : Int) ∣ ((1 : Nat) : Int) := by
    have := Int.dvd_sub h2 h1
    rw [show m - (m - 1) = ((1 : Nat) : Int) by omega] at this
    exact this
  exact Nat.dvd_one.mp (Int.ofNat_dvd.mp h3)

def sp_law_unit (K : PySem.W.Frag) : Sp := fun vs H Q _ => ∃ (d n : Addr) (m : Nat), vs = [.ref d, .int (m : Int)] ∧ 2 ≤ m ∧ m ≤ 1000000000 ∧ Dr H d n ∧ RetD d n (fun v => ∃ z : Int, v = .int z ∧ 0 ≤ z ∧ z < m ∧ Int.gcd z m = 1) H Q
theorem ok_law_unit (T : Txt K mg) : FnOk P w K mg base CX0 5 T.a_law_unit T.fd_law_unit ["draws", "modulus"] (sp_law_unit K) := by
  refine T.F_law_unit.ok sc_law_unit (fun vs H Q E h => ?_) (fun cdv A outer s H vs Q E hr h => ?_)
  · obtain ⟨d, n, m, rfl, _⟩ := h
    rfl
  · obtain ⟨d, n, m, rfl, m2, m9, hD, q⟩ := h
    refine ⟨_, (pss_cons (ps_for PassesOwn.never rfl (pi_range1 (by rfl) T.m_range (pa_cons pe_int pa_nil)) (pg_name (i := 2) sc_law_unit.nd rfl (Or.inl rfl))
      (pss_cons (ps_set (i := 3) sc_law_unit.nd rfl (.inl rfl) (pe_call (ok_law_number T) hr (by rfl) T.g_law_number T.F_law_number.kp T.b_law_number .nil pass0 (pa_cons (pv 0) (pa_cons (pv 1) pa_nil))))
      (pss_one (ps_if (pt_cmpR op_eq (pe_call (ok_law_gcd T) (hr.mono (by decide)) (by rfl) T.g_law_gcd T.F_law_gcd.kp T.b_law_gcd .nil pass0 (pa_cons (pv 3) (pa_cons (pv 1) pa_nil))) pe_int (nomark _))
      (pss_one (ps_ret (pv 3)))
      pss_nil))))
      (pss_one (ps_ret (pe_op op_sub (pv 1) pe_int)))), ?_⟩
    walk_at "start"
    walk_at "x"
    refine x_forR1 30 (fun i σ' H' => Dr H' d n ∧ Keep d H H' ∧ ∃ v2 v3, σ' = [some (.ref d), some (.int (m : Int)), v2, v3]) (fun R r => r) (by decide) (by decide) ⟨hD, Keep.refl _ _, _, _, rfl⟩ ?_ ?_
    · rintro i σ' H1 hi ⟨hD, hk, v2, v3, rfl⟩
      walk_at "x"
      refine ⟨d, n, _, rfl, by omega, hD, ?_⟩
      rintro _ H2 ⟨z, rfl, z0, z1⟩ hD2 hk2
      walk_at "x"
      refine ⟨z, m, rfl, z0, by omega, by omega, by omega, ?_⟩
      walk_at "x"
      refine x_ite (fun hc => ?_) (fun hc => ?_)
      · walk_at "x"
        exact q _ _ ⟨z, rfl, z0, z1, by omega⟩ hD2 (hk.trans hk2)
      · walk_at "x"
        exact ⟨hD2, hk.trans hk2, _, _, rfl⟩
    · rintro σ' H1 ⟨hD, hk, v2, v3, rfl⟩
      walk_at "x"
      exact q _ _ ⟨_, rfl, by omega, by omega, gcd_pred⟩ hD hk


theorem eightP {v : V} (h : v ∈ ([.int 2, .int 3, .int 5, .int 7, .int 11, .int 13, .int 101, .int 999999937] : List V)) : ∃ p : Nat, v = .int (p : Int) ∧ IsPrime p ∧ p ≤ 1000000000 := by
  have h' : v = .int 2 ∨ v = .int 3 ∨ v = .int 5 ∨ v = .int 7 ∨ v = .int 11 ∨ v = .int 13 ∨ v = .int 101 ∨ v = .int 999999937 := by simpa using h
  rcases h' with rfl | rfl | rfl | rfl | rfl | rfl | rfl | rfl
  · exact ⟨2, rfl, p2, by decide⟩
  · exact ⟨3, rfl, p3, by decide⟩
  · exact ⟨5, rfl, p5, by decide⟩
  · exact ⟨7, rfl, p7, by decide⟩
  · exact ⟨11, rfl, p11, by decide⟩
  · exact ⟨13, rfl, p13, by decide⟩
  · exact ⟨101, rfl, p101, by decide⟩
  · exact ⟨999999937, rfl, pBig, by decide⟩
def sp_law_prime (K : PySem.W.Frag) : Sp := fun vs H Q _ => ∃ (d n : Addr), vs = [.ref d] ∧ Dr H d n ∧ RetD d n (fun v => ∃ p : Nat, v = .int (p : Int) ∧ IsPrime p ∧ p ≤ 1000000000) H Q
theorem ok_law_prime (T : Txt K mg) : FnOk P w K mg base CX0 3 T.a_law_prime T.fd_law_prime ["draws"] (sp_law_prime K) := by
  refine T.F_law_prime.ok sc_law_prime (fun vs H Q E h => ?_) (fun cdv A outer s H vs Q E hr h => ?_)
  · obtain ⟨d, n, rfl, _⟩ := h
    rfl
  · obtain ⟨d, n, rfl, hD, q⟩ := h
    refine ⟨_, (pss_one (ps_ret (pe_ix (r := rIxL K) ix_list (pe_lst (pa_cons pe_int (pa_cons pe_int (pa_cons pe_int (pa_cons pe_int (pa_cons pe_int (pa_cons pe_int (pa_cons pe_int (pa_cons pe_int pa_nil))))))))) (pe_op op_mod (pe_call (ok_law_draw T) hr (by rfl) T.g_law_draw T.F_law_draw.kp T.b_law_draw .nil pass0 (pa_cons (pv 0) pa_nil)) pe_int) (fun _ _ => rfl)))), ?_⟩
    walk_at "start"
    walk_at "x"
    refine ⟨by show 8 ≤ sizeLine; decide, fun u hu => ?_⟩
    have hne := hD.new hu
    have hk := Same.keep (d := d) (same_upd (o := .lst [.int 2, .int 3, .int 5, .int 7, .int 11, .int 13, .int 101, .int 999999937]) hu)
    have hD := hD.upd0 (o := .lst [.int 2, .int 3, .int 5, .int 7, .int 11, .int 13, .int 101, .int 999999937]) hu
    walk_at "x"
    refine ⟨d, n, rfl, hD, ?_⟩
    rintro _ H3 ⟨z, rfl, hz0, hz1⟩ hD3 hk3
    walk_at "x"
    obtain ⟨v, hv, hm⟩ := at_lt (xs := [.int 2, .int 3, .int 5, .int 7, .int 11, .int 13, .int 101, .int 999999937]) (i := z % 8) (Int.emod_nonneg _ (by decide)) (Int.emod_lt_of_pos z (show (0 : Int) < 8 by decide))
    refine x_ixL (sq_of (hk3 _ _ upd_same hne)) hv ?_
    exact q _ _ (eightP hm) hD3 (hk.trans hk3)


def RowsJ (H0 : Hp) (p n : Nat) (d nn o : Addr) (i : Nat) (H : Hp) : Prop := Dr H d nn ∧ Keep d H0 H ∧ o ≠ d ∧ o ≠ nn ∧ ∃ (as : List Addr) (t : List (List Int)), H o = some (.lst (as.map V.ref)) ∧ as.length = i ∧ t.length = i ∧
  (∀ (k : Nat) r b, t[k]? = some r → as[k]? = some b → H b = some (.tup (r.map V.int))) ∧ ∀ (k : Nat) r, t[k]? = some r → r.length = n ∧ Rg 0 p r
def sp_law_table (K : PySem.W.Frag) : Sp := fun vs H Q _ => ∃ (d n : Addr) (p : Nat), vs = [.ref d, .int (p : Int)] ∧ 2 ≤ p ∧ Dr H d n ∧ RetH d n (fun v H' => ∃ (l : Addr) (t : List (List Int)), v = .ref l ∧ TbAt H' l t ∧ IsTab p t ∧ t.length ≤ 4) H Q
theorem ok_law_table (T : Txt K mg) : FnOk P w K mg base CX0 5 T.a_law_table T.fd_law_table ["draws", "prime"] (sp_law_table K) := by
  refine T.F_law_table.ok sc_law_table (fun vs H Q E h => ?_) (fun cdv A outer s H vs Q E hr h => ?_)
  · obtain ⟨d, n, p, rfl, _⟩ := h
    rfl
  · obtain ⟨d, nn, p, rfl, hp2, hD, q⟩ := h
    refine ⟨_, (pss_cons (ps_set (i := 2) sc_law_table.nd rfl (.inr rfl) (pe_op op_add pe_int (pe_op op_mod (pe_call (ok_law_draw T) (hr.mono (by decide)) (by rfl) T.g_law_draw T.F_law_draw.kp T.b_law_draw .nil pass0 (pa_cons (pv 0) pa_nil)) (pe_callB (id := "min") (r := rMin2) (cr_min2 rfl) (by rfl) T.m_min (by decide +kernel) (pa_cons (pv 1) (pa_cons pe_int pa_nil))))))
      (pss_one (ps_ret (pe_callTy (T := "tuple") (r := rTupOf K) cr_tup_of (by rfl) T.m_tuple (by decide +kernel) (pa_cons (pe_lc (own := [("i", 3)]) (g := gName 3) (tt := tYes) rfl sc_law_table.nd (pi_range1 (by rfl) T.m_range (pa_cons (pv 2) pa_nil)) (blkOk_by (N := N_law_table) (sc := defScope s_law_table) (by decide +kernel)) (fun _ _ _ _ _ => (pg_name (i := 3) sc_law_table.nd rfl (Or.inl rfl))) (fun _ _ _ _ _ => pts_nil) (fun _ _ _ _ _ => (pe_callTy (T := "tuple") (r := rTupOf K) cr_tup_of (by rfl) T.m_tuple (by decide +kernel) (pa_cons (pe_lc (own := [("j", 4)]) (g := gName 4) (tt := tYes) rfl sc_law_table.nd (pi_range1 (by rfl) T.m_range (pa_cons (pv 2) pa_nil)) (blkOk_by (by kernel_rfl)) (fun _ _ _ _ _ => (pg_name (i := 4) sc_law_table.nd rfl (Or.inl rfl))) (fun _ _ _ _ _ => pts_nil) (fun _ _ _ _ _ => (pe_call (ok_law_number T) hr (by rfl) T.g_law_number T.F_law_number.kp T.b_law_number .nil pass0 (pa_cons (pv 0) (pa_cons (pv 1) pa_nil))))) pa_nil)))) pa_nil))))), ?_⟩
    walk_at "start"
    walk_at "x"
    refine ⟨d, nn, rfl, hD, ?_⟩
    rintro _ H5 ⟨y, rfl, hy0, hy1⟩ hD5 hk5
    have hmin : ∃ m : Nat, (if 4 < (p : Int) then (4 : Int) else p) = (m : Int) ∧ 2 ≤ m ∧ m ≤ p ∧ m ≤ 4 := by
      split
      · exact ⟨4, rfl, by decide, by omega, by decide⟩
      · exact ⟨p, rfl, hp2, by omega, by omega⟩
    obtain ⟨m, em, m2, mp, m8⟩ := hmin
    walk_at "x"
    rw [em]
    have ym0 : 0 ≤ y % (m : Int) := Int.emod_nonneg _ (by omega)
    have ym1 : y % (m : Int) < m := Int.emod_lt_of_pos _ (by omega)
    walk_at "x"
    obtain ⟨n, hn⟩ : ∃ n : Nat, 1 + y % (m : Int) = (n : Int) := ⟨(1 + y % (m : Int)).toNat, by omega⟩
    rw [hn]
    have hn1 : 1 ≤ n := by omega
    have hn4 : n ≤ 4 := by omega
    have hnp : n ≤ p := by omega
    refine x_lcR1 (n : Int) (fun o k H' => RowsJ H5 p n d nn o k H') (fun R r => ⟨_, rfl, r⟩) (by omega) (by omega) (fun o ho => ⟨hD5.upd0 ho, Same.keep (same_upd ho), hD5.new ho, hD5.newN ho, [], [], upd_same, rfl, rfl, fun k r b h _ => by simp at h, fun k r h => by simp at h⟩) (fun x => rfl) ?_ ?_
    · rintro o k H6 ho hk ⟨hD6, hk6, hod, hon, as, t, hO, hal, htl, hrow, hrz⟩
      walk_at "x"
      refine x_lcR1 (n : Int) (fun c j H' => Dr H' d nn ∧ c ≠ d ∧ c ≠ nn ∧ Keep d H6 H' ∧ ∃ row : List Int, H' c = some (.lst (row.map V.int)) ∧ row.length = j ∧ Rg 0 p row) (fun R r => ⟨_, rfl, r⟩) (by omega) (by omega) (fun c hc => ⟨hD6.upd0 hc, hD6.new hc, hD6.newN hc, Same.keep (same_upd hc), [], upd_same, rfl, .nil⟩) (fun x => rfl) ?_ ?_
      · rintro c j H7 hc hj ⟨hD7, hcd, hcn, hk7, row, hR, hrl, hrg⟩
        walk_at "x"
        refine ⟨d, nn, (p : Int), rfl, by omega, hD7, ?_⟩
        rintro _ H8 ⟨z, rfl, hz0, hz1⟩ hD8 hk8
        refine ⟨_, hk8 _ _ hR hcd, lt_line (by rw [List.length_map]; omega), hD8.upd hcd hcn, hcd, hcn, kput (hk7.trans hk8) hc, row ++ [z], map_app, by rw [List.length_append, hrl]; rfl, hrg.snoc hz0 hz1⟩
      · rintro c H7 hc ⟨hD7, hcd, hcn, hk7, row, hR, hrl, hrg⟩
        walk_at "x"
        refine x_tupL (sq_of hR) fun l hll => ?_
        have hO7 := hk7 _ _ hO hod
        have hlo : o ≠ l := ne_of_none hO7 hll
        have hld := hD7.new hll
        have hln := hD7.newN hll
        have hl6 : H6 l = none := hk7.free hD7 hll
        have hl5 : H5 l = none := hk6.free hD6 hl6
        refine ⟨as.map V.ref, by rw [upd_ne hlo]; exact hO7, lt_line (by rw [List.length_map]; omega), (hD7.upd0 hll).upd hod hon, kput (kput (hk6.trans hk7) hl5) ho, hod, hon, as ++ [l], t ++ [row], by rw [upd_same, List.map_append]; rfl, by rw [List.length_append, hal]; rfl, by rw [List.length_append, htl]; rfl, fun k2 r b e1 e2 => ?_, fun k2 r e1 => ?_⟩
        · rcases snoc_at htl e1 with ⟨h1, e1⟩ | ⟨rfl, rfl⟩
          · rcases snoc_at hal e2 with ⟨h2, e2⟩ | ⟨rfl, rfl⟩
            · have hb7 := keep_tups hk7 hD6 _ _ (hrow k2 r b e1 e2)
              rw [upd_ne (ne_of hb7 hO7 (by intro z; cases z)), upd_ne (ne_of_none hb7 hll)]
              exact hb7
            · omega
          · rcases snoc_at hal e2 with ⟨h2, e2⟩ | ⟨_, rfl⟩
            · omega
            · rw [upd_ne hlo.symm, upd_same]
        · rcases snoc_at htl e1 with ⟨h1, e1⟩ | ⟨rfl, rfl⟩
          · exact hrz k2 r e1
          · exact ⟨by omega, hrg⟩
    · rintro o H6 ho ⟨hD6, hk6, hod, hon, as, t, hO, hal, htl, hrow, hrz⟩
      walk_at "x"
      refine x_tupL (sq_of hO) fun l hll => ?_
      have htl : t.length = n := by omega
      have hI : IsTab p t := ⟨by omega, by omega, fun k r e => ⟨by rw [htl]; exact (hrz k r e).1, (hrz k r e).2⟩⟩
      refine q _ _ ⟨l, t, rfl, ⟨as, upd_same, by omega, fun k r b e1 e2 => by rw [upd_ne (ne_of_none (hrow k r b e1 e2) hll)]; exact hrow k r b e1 e2⟩, hI, by omega⟩ (hD6.upd0 hll) (kput (hk5.trans hk6) (hk5.free hD5 (hk6.free hD6 hll)))


def sp_law_factor (K : PySem.W.Frag) : Sp := fun vs H Q _ => ∃ (d n : Addr) (t c i : Nat), vs = [.ref d, .int (t : Int), .int (c : Int), .int (i : Int)] ∧ t < c ∧ c ≤ 60 ∧ i ≤ 60 ∧ (1 < c ∨ 0 < i) ∧ Dr H d n ∧ RetH d n (fun v H' => ∃ (b : Addr) (f : Fac), v = .ref b ∧ FacAt H' b f ∧ FacOk c i t f) H Q
theorem max_one {i : Nat} (h : 0 < i) : (if (i : Int) > 1 then (i : Int) else 1) = (i : Int) := by
  split <;> omega
theorem ok_law_factor (T : Txt K mg) : FnOk P w K mg base CX0 3 T.a_law_factor T.fd_law_factor ["draws", "target", "cells", "inputs"] (sp_law_factor K) := by
  refine T.F_law_factor.ok sc_law_factor (fun vs H Q E h => ?_) (fun cdv A outer s H vs Q E hr h => ?_)
  · obtain ⟨d, n, t, c, i, rfl, _⟩ := h
    rfl
  · obtain ⟨d, n, t, c, i, rfl, htc, c60, i60, hor, hD, q⟩ := h
    refine ⟨_, (pss_cons (ps_if (PW.pt (pw_and (pt_cmpR op_gt (pv 2) pe_int (nomark _)) (pw_and1 (PW.pt (pw_or (pt_cmpR op_eq (pv 3) pe_int (nomark _)) (pw_or1 (pt_cmpR op_eq (pe_op op_mod (pe_call (ok_law_draw T) hr (by rfl) T.g_law_draw T.F_law_draw.kp T.b_law_draw .nil pass0 (pa_cons (pv 0) pa_nil)) pe_int) pe_int (nomark _))))))))
      (pss_one (ps_ret (pe_tup (pa_cons pe_str (pa_cons (pe_op op_mod (pe_op op_add (pe_op op_add (pv 1) pe_int) (pe_op op_mod (pe_call (ok_law_draw T) hr (by rfl) T.g_law_draw T.F_law_draw.kp T.b_law_draw .nil pass0 (pa_cons (pv 0) pa_nil)) (pe_op op_sub (pv 2) pe_int))) (pv 2)) pa_nil)))))
      pss_nil)
      (pss_one (ps_ret (pe_tup (pa_cons pe_str (pa_cons (pe_op op_mod (pe_call (ok_law_draw T) hr (by rfl) T.g_law_draw T.F_law_draw.kp T.b_law_draw .nil pass0 (pa_cons (pv 0) pa_nil)) (pe_callB (id := "max") (r := rMax2) (cr_max2 rfl) (by rfl) T.m_max (by decide +kernel) (pa_cons pe_int (pa_cons (pv 3) pa_nil)))) pa_nil)))))), ?_⟩
    have one : ∀ (H1 : Hp), 1 < c → Dr H1 d n → Keep d H H1 → ∀ y : Int, ∀ p, H1 p = none → Q (.ref p) (upd H1 p (.tup [.str "cell", .int (((t : Int) + 1 + y % ((c : Int) - 1)) % (c : Int))])) := fun H1 hc hD1 hk1 y p hp => by
      obtain ⟨j, ej, jc, jt⟩ := wrap_ne htc (Int.emod_nonneg y (show (c : Int) - 1 ≠ 0 by omega)) (Int.emod_lt_of_pos y (show (0 : Int) < (c : Int) - 1 by omega))
      rw [ej]
      exact q _ _ ⟨p, .cell j, rfl, upd_same, ⟨jc, jt⟩⟩ (hD1.upd0 hp) (kput hk1 (hk1.free hD1 hp))
    have two : ∀ (H1 : Hp), 0 < i → Dr H1 d n → Keep d H H1 → ∀ y : Int, ∀ p, H1 p = none → Q (.ref p) (upd H1 p (.tup [.str "input", .int (y % (i : Int))])) := fun H1 hi hD1 hk1 y p hp => by
      obtain ⟨j, ej, jc⟩ : ∃ j : Nat, y % (i : Int) = (j : Int) ∧ j < i := ⟨(y % (i : Int)).toNat, by have := Int.emod_nonneg y (show (i : Int) ≠ 0 by omega); omega, by have := Int.emod_lt_of_pos y (show (0 : Int) < i by omega); omega⟩
      rw [ej]
      exact q _ _ ⟨p, .inp j, rfl, upd_same, jc⟩ (hD1.upd0 hp) (kput hk1 (hk1.free hD1 hp))
    walk_at "start"
    walk_at "x"
    refine x_ite (fun hc => ?_) (fun hc => ?_)
    · walk_at "x"
      refine x_ite (fun hi => ?_) (fun hi => ?_)
      · walk_at "t"
        refine ⟨d, n, rfl, hD, ?_⟩
        rintro _ H1 ⟨y, rfl, y0, y1⟩ hD1 hk1
        walk_at "x"
        exact ⟨by show 2 ≤ sizeLine; decide, one H1 (by omega) hD1 hk1 y⟩
      · walk_at "x"
        refine ⟨d, n, rfl, hD, ?_⟩
        rintro _ H1 ⟨z, rfl, z0, z1⟩ hD1 hk1
        walk_at "x"
        refine x_ite (fun hz => ?_) (fun hz => ?_)
        · walk_at "x"
          refine ⟨d, n, rfl, hD1, ?_⟩
          rintro _ H2 ⟨y, rfl, y0, y1⟩ hD2 hk2
          walk_at "x"
          exact ⟨by show 2 ≤ sizeLine; decide, one H2 (by omega) hD2 (hk1.trans hk2) y⟩
        · walk_at "x"
          refine ⟨d, n, rfl, hD1, ?_⟩
          rintro _ H2 ⟨y, rfl, y0, y1⟩ hD2 hk2
          walk_at "x"
          rw [max_one (by omega)]
          walk_at "x"
          exact ⟨by show 2 ≤ sizeLine; decide, two H2 (by omega) hD2 (hk1.trans hk2) y⟩
    · walk_at "f"
      refine ⟨d, n, rfl, hD, ?_⟩
      rintro _ H2 ⟨y, rfl, y0, y1⟩ hD2 hk2
      walk_at "x"
      rw [max_one (by omega)]
      walk_at "x"
      exact ⟨by show 2 ≤ sizeLine; decide, two H2 (by omega) hD2 hk2 y⟩


theorem keep_tupsG {d n : Addr} {H H' : Hp} (k : Keep d H H') (h : Dr H d n) : ∀ b xs, H b = some (.tup xs) → H' b = some (.tup xs) := fun b xs e => keep_tups k h b xs e

end
end Br
namespace Br
open PySem PySem.Spec PyProof.Rows L2
local macro_rules | `(tactic| walk_at "x1") => `(tactic| (with_reducible first
  | refine Br.x_seq ?_ | refine Br.x_set ?_ | refine Br.x_asg ?_ | refine Br.x_next ?_ | refine Br.x_ret ?_ | refine Br.x_retN ?_ | refine Br.x_drop ?_ | refine Br.x_if ?_ | refine Br.x_brk ?_ | refine Br.x_cont ?_
  | refine Br.x_c ?_ | refine Br.x_op ?_ | refine Br.x_un ?_ | refine Br.x_I0 ?_ | refine Br.x_U ?_ | refine Br.x_EqI ?_ | refine Br.x_NeI ?_ | refine Br.x_EqB ?_ | refine Br.x_iN ?_ | refine Br.x_int1 ?_ | refine Br.x_min2 ?_ | refine Br.x_max2 ?_ | refine Br.x_nN ?_ | refine Br.x_ifE ?_
  | refine Br.x_test (b := ()) ?_ | refine Br.x_tB ?_ | refine Br.x_bl ?_ | refine Br.x_and ?_ | refine Br.x_or ?_ | refine Br.x_not ?_ | refine Br.x_andV ?_ | refine Br.x_orV ?_ | refine Br.x_notV ?_ | refine Br.x_blP ?_
  | refine Br.x_nil ?_ | refine Br.x_cons ?_ | refine Br.x_call ?_ | refine Br.x_CB ?_ | refine Br.x_BM ?_ | refine Br.x_tup ?_ | refine Br.x_lst ?_ | refine Br.x_chain ?_ | refine Br.x_par ?_ | refine Br.x_gSub ?_ | refine Br.x_gName ?_ | refine Br.x_fld ?_ | refine Br.x_fldS ?_ | refine Br.x_match ?_ | refine Br.x_else ?_ | refine Br.x_noCase ?_))
local macro_rules | `(tactic| walk_at "xv") => `(tactic| ((with_reducible refine' Br.x_var ?hvar ?_); (case hvar => rfl)))
local macro_rules | `(tactic| walk_at "xd") => `(tactic| (dsimp only [List.set_cons_zero, List.set_cons_succ, List.cons_append, List.nil_append, List.append_nil]))
local macro_rules | `(tactic| walk_at "xi") => `(tactic| ((with_reducible refine Br.x_I ?hside ?_); (case hside => first | exact Br.mul_r (by decide) (by decide) | exact Br.mul_l (by decide) (by decide) | exact Br.mul_l (by omega) (by omega) | exact Br.mul_r (by omega) (by omega) | (show (0 : Int) < _; first | decide | omega) | exact ⟨by decide, by decide⟩ | exact ⟨by omega, by omega⟩ | exact ⟨by decide, by decide, by decide⟩)))
local macro_rules | `(tactic| walk_at "x") => `(tactic| (repeat (first | walk_at "x1" | walk_at "xv" | walk_at "xi" | walk_at "xd")))
local macro_rules | `(tactic| walk_at "start") => `(tactic| (simp only [L2.start, List.map_cons, List.map_nil, List.length_cons, List.length_nil, Nat.reduceAdd, Nat.reduceSub, List.replicate, List.cons_append, List.nil_append, List.append_nil]))
local macro_rules | `(tactic| walk_at "isi") => `(tactic| first
  | refine Br.x_isi (b := true) (.base (.int _)) (by decide +kernel) ?_ | refine Br.x_isi (b := false) (.base (.int _)) (by decide +kernel) ?_
  | refine Br.x_isi (b := true) (.base (.bl _)) (by decide +kernel) ?_ | refine Br.x_isi (b := false) (.base (.bl _)) (by decide +kernel) ?_
  | refine Br.x_isi (b := false) (.base .non) (by decide +kernel) ?_
  | refine Br.x_isi (b := true) (.base (.str _)) (by decide +kernel) ?_ | refine Br.x_isi (b := false) (.base (.str _)) (by decide +kernel) ?_
  | refine Br.x_isi (b := true) (.base (.tup (by assumption))) (by decide +kernel) ?_ | refine Br.x_isi (b := false) (.base (.tup (by assumption))) (by decide +kernel) ?_
  | refine Br.x_isi (b := true) (.base (.lst (by assumption))) (by decide +kernel) ?_ | refine Br.x_isi (b := false) (.base (.lst (by assumption))) (by decide +kernel) ?_)
local macro_rules | `(tactic| walk_at "f") => `(tactic| (refine L2.iteF ?_; walk_at "x"))
local macro_rules | `(tactic| walk_at "t") => `(tactic| (refine L2.iteT ?_; walk_at "x"))
local macro_rules | `(tactic| walk_at "is") => `(tactic| (walk_at "isi"; walk_at "x"))
local macro_rules | `(tactic| walk_at "xb") => `(tactic| (simp only [Br.bindS, List.set_cons_zero, List.set_cons_succ]; walk_at "x"))

section
variable {P : Program} {w : World} {K : PySem.W.Frag} {mg : Str → Option Value} {base : Heap}

open Br.F
theorem x_lcPre {σ : L2.St} {H : Hp} {Q : VK} {ta : TE} {j : Nat} {te : TE} {vs : List Nat} (h : ta σ H fun v H1 => tLc (iRng1 (tCons (tC v) tNil)) (gName j) tYes te vs σ H1 Q) : tLc (iRng1 (tCons ta tNil)) (gName j) tYes te vs σ H Q := h

def FacsI (H0 : Hp) (t c i : Nat) (d nn o : Addr) (k : Nat) (H : Hp) : Prop := Dr H d nn ∧ Keep d H0 H ∧ o ≠ d ∧ o ≠ nn ∧ ∃ (as : List Addr) (fs : List Fac), H o = some (.lst (as.map V.ref)) ∧ as.length = k ∧ fs.length = k ∧ (∀ (j : Nat) x b, fs[j]? = some x → as[j]? = some b → FacAt H b x) ∧ ∀ f, f ∈ fs → FacOk c i t f
def sp_law_step (K : PySem.W.Frag) : Sp := fun vs H Q _ => ∃ (d n : Addr) (m c i : Nat) (pr : Bool), vs = [.ref d, .int (m : Int), .int (c : Int), .int (i : Int), .bl pr] ∧ 2 ≤ m ∧ m ≤ 1000000000 ∧ 1 ≤ c ∧ c ≤ 60 ∧ i ≤ 60 ∧ (pr = true → IsPrime m) ∧ Dr H d n ∧
  RetH d n (fun v H' => ∃ (b : Addr) (s : Stp), v = .ref b ∧ StpAt H' b s ∧ StpOk m c i s) H Q
theorem ok_law_step (T : Txt K mg) : FnOk P w K mg base CX0 6 T.a_law_step T.fd_law_step ["draws", "modulus", "cells", "inputs", "prime"] (sp_law_step K) := by
  refine T.F_law_step.ok sc_law_step (fun vs H Q E h => ?_) (fun cdv A outer s H vs Q E hr h => ?_)
  · obtain ⟨d, n, m, c, i, pr, rfl, _⟩ := h
    rfl
  · obtain ⟨d, n, m, c, i, pr, rfl, m2, m9, c1, c60, i60, hpr, hD, q⟩ := h
    refine ⟨_, (pss_cons (ps_set (i := 5) sc_law_step.nd rfl (.inl rfl) (pe_op op_mod (pe_call (ok_law_draw T) (hr.mono (by decide)) (by rfl) T.g_law_draw T.F_law_draw.kp T.b_law_draw .nil pass0 (pa_cons (pv 0) pa_nil)) pe_int))
      (pss_cons (ps_set (i := 6) sc_law_step.nd rfl (.inr rfl) (pe_op op_mod (pe_call (ok_law_draw T) (hr.mono (by decide)) (by rfl) T.g_law_draw T.F_law_draw.kp T.b_law_draw .nil pass0 (pa_cons (pv 0) pa_nil)) (pv 2)))
      (Evl.pss_cut (ps_if (PW.pt (pw_and (pt_cmpR op_eq (pv 5) pe_int (nomark _)) (pw_and1 (pt_cmpR op_gt (pv 2) pe_int (nomark _)))))
      (pss_one (ps_ret (pe_tup (pa_cons pe_str (pa_cons (pv 6) (pa_cons (pe_op op_mod (pe_op op_add (pe_op op_add (pv 6) pe_int) (pe_op op_mod (pe_call (ok_law_draw T) (hr.mono (by decide)) (by rfl) T.g_law_draw T.F_law_draw.kp T.b_law_draw .nil pass0 (pa_cons (pv 0) pa_nil)) (pe_op op_sub (pv 2) pe_int))) (pv 2)) pa_nil))))))
      pss_nil)
      (pss_cons (ps_if (pt_cmpR op_eq (pv 5) pe_int (nomark _))
      (pss_one (ps_ret (pe_tup (pa_cons pe_str (pa_cons (pv 6) (pa_cons (pe_call (ok_law_unit T) hr (by rfl) T.g_law_unit T.F_law_unit.kp T.b_law_unit .nil pass0 (pa_cons (pv 0) (pa_cons (pv 1) pa_nil))) pa_nil))))))
      pss_nil)
      (Evl.pss_cut (ps_if (PW.pt (pw_and (pt_cmpR op_eq (pv 5) pe_int (nomark _)) (pw_and (pt_val (pv 4)) (pw_and1 (pt_cmpR op_gt (pv 2) pe_int (nomark _))))))
      (pss_cons (ps_set (i := 7) sc_law_step.nd rfl (.inl rfl) (pe_op op_add pe_int (pe_op op_mod (pe_call (ok_law_draw T) (hr.mono (by decide)) (by rfl) T.g_law_draw T.F_law_draw.kp T.b_law_draw .nil pass0 (pa_cons (pv 0) pa_nil)) (pe_op op_sub (pv 2) pe_int))))
      (pss_cons (ps_set (i := 8) sc_law_step.nd rfl (.inl rfl) (pe_op op_add (pe_op op_add (pv 7) pe_int) (pe_op op_mod (pe_call (ok_law_draw T) (hr.mono (by decide)) (by rfl) T.g_law_draw T.F_law_draw.kp T.b_law_draw .nil pass0 (pa_cons (pv 0) pa_nil)) (pe_op op_sub (pe_op op_sub (pv 2) pe_int) (pv 7)))))
      (pss_cons (ps_set (i := 9) sc_law_step.nd rfl (.inl rfl) (pe_tup (pa_cons (pe_op op_mod (pe_op op_add (pv 6) (pv 7)) (pv 2)) (pa_cons (pe_op op_mod (pe_op op_add (pv 6) (pv 8)) (pv 2)) pa_nil))))
      (Evl.pss_cut (ps_if (pt_cmpR op_eq (pe_op op_mod (pe_call (ok_law_draw T) (hr.mono (by decide)) (by rfl) T.g_law_draw T.F_law_draw.kp T.b_law_draw .nil pass0 (pa_cons (pv 0) pa_nil)) pe_int) pe_int (nomark _))
      (pss_one (ps_set (i := 9) sc_law_step.nd rfl (.inl rfl) (pe_tup (pa_cons (pe_ix (r := rIxT K) ix_tup (pv 9) pe_int (fun _ _ => rfl)) (pa_cons (pe_ix (r := rIxT K) ix_tup (pv 9) pe_int (fun _ _ => rfl)) pa_nil)))))
      pss_nil)
      (pss_cons (ps_set (i := 10) sc_law_step.nd rfl (.inl rfl) (pe_ix (r := rIxL K) ix_list (pe_lst (pa_cons pe_int (pa_cons (pe_op op_sub (pv 1) pe_int) pa_nil))) (pe_op op_mod (pe_call (ok_law_draw T) (hr.mono (by decide)) (by rfl) T.g_law_draw T.F_law_draw.kp T.b_law_draw .nil pass0 (pa_cons (pv 0) pa_nil)) pe_int) (fun _ _ => rfl)))
      (pss_one (ps_ret (pe_tup (pa_cons pe_str (pa_cons (pv 6) (pa_cons (pv 10) (pa_cons (pe_call (ok_law_table T) hr (by rfl) T.g_law_table T.F_law_table.kp T.b_law_table .nil pass0 (pa_cons (pv 0) (pa_cons (pv 1) pa_nil))) (pa_cons (pe_ix (r := rIxT K) ix_tup (pv 9) pe_int (fun _ _ => rfl)) (pa_cons (pe_ix (r := rIxT K) ix_tup (pv 9) pe_int (fun _ _ => rfl)) pa_nil))))))))))))))
      pss_nil)
      (pss_cons (ps_set (i := 11) sc_law_step.nd rfl (.inl rfl) (pe_lst pa_nil))
      (Evl.pss_cut (ps_if (PW.pt (pw_or (pt_cmpR op_gt (pv 2) pe_int (nomark _)) (pw_or1 (pt_cmpR op_gt (pv 3) pe_int (nomark _)))))
      (pss_one (ps_setLc (i := 11) (own := [("k", 12)]) (g := gName 12) (tt := tYes) rfl sc_law_step.nd rfl rfl (sw_true rfl rfl rfl (by decide +kernel)) (pi_range1 (by rfl) T.m_range (pa_cons (pe_op op_mod (pe_call (ok_law_draw T) (hr.mono (by decide)) (by rfl) T.g_law_draw T.F_law_draw.kp T.b_law_draw .nil pass0 (pa_cons (pv 0) pa_nil)) pe_int) pa_nil)) (blkOk_by (N := N_law_step) (sc := defScope s_law_step) (by decide +kernel)) (fun _ _ _ _ _ => (pg_name (i := 12) sc_law_step.nd rfl (Or.inl rfl))) (fun _ _ _ _ _ => pts_nil) (fun _ _ _ _ _ => (pe_call (ok_law_factor T) (hr.mono (by decide)) (by rfl) T.g_law_factor T.F_law_factor.kp T.b_law_factor .nil pass0 (pa_cons (pv 0) (pa_cons (pv 6) (pa_cons (pv 2) (pa_cons (pv 3) pa_nil))))))))
      pss_nil)
      (pss_one (ps_ret (pe_tup (pa_cons pe_str (pa_cons (pv 6) (pa_cons (pe_call (ok_law_number T) (hr.mono (by decide)) (by rfl) T.g_law_number T.F_law_number.kp T.b_law_number .nil pass0 (pa_cons (pv 0) (pa_cons (pv 1) pa_nil))) (pa_cons (pe_callTy (T := "tuple") (r := rTupOf K) cr_tup_of (by rfl) T.m_tuple (by decide +kernel) (pa_cons (pv 11) pa_nil)) pa_nil)))))))))))))), ?_⟩
    walk_at "start"
    walk_at "x"
    refine ⟨d, n, rfl, hD, ?_⟩
    rintro _ H1 ⟨z, rfl, z0, z1⟩ hD1 hk1
    walk_at "x"
    refine ⟨d, n, rfl, hD1, ?_⟩
    rintro _ H2 ⟨y, rfl, y0, y1⟩ hD2 hk2
    have hk2 := hk1.trans hk2
    walk_at "x"
    obtain ⟨t, et, htc⟩ := cast_lt (x := y % (c : Int)) (c := c) (Int.emod_nonneg y (show (c : Int) ≠ 0 by omega)) (Int.emod_lt_of_pos y (show (0 : Int) < (c : Int) by omega))
    rw [et]
    refine x_cut (fun σ' H' => [some (V.ref d), some (.int (m : Int)), some (.int (c : Int)), some (.int (i : Int)), some (.bl pr), some (.int (z % 8)), some (.int (t : Int)), none, none, none, none, none, none] = σ' ∧ H2 = H') ?_ ?_
    · walk_at "x"
      refine x_ite (fun h0 => ?_) (fun h0 => ?_)
      · walk_at "x"
        refine x_ite (fun h1 => ?_) (fun h1 => ?_)
        · walk_at "x"
          refine ⟨d, n, rfl, hD2, ?_⟩
          rintro _ H3 ⟨w, rfl, w0, w1⟩ hD3 hk3
          walk_at "x"
          refine ⟨by show 3 ≤ sizeLine; decide, fun p hp => ?_⟩
          obtain ⟨j, ej, jc, jt⟩ := wrap_ne htc (Int.emod_nonneg w (show (c : Int) - 1 ≠ 0 by omega)) (Int.emod_lt_of_pos w (show (0 : Int) < (c : Int) - 1 by omega))
          rw [ej]
          exact q _ _ ⟨p, .swap t j, rfl, upd_same, ⟨htc, jc, jt.symm⟩⟩ (hD3.upd0 hp) (kput (hk2.trans hk3) (hk2.free hD2 (hk3.free hD3 hp)))
        · walk_at "x"
          exact ⟨rfl, rfl⟩
      · walk_at "f"
        exact ⟨rfl, rfl⟩
    rintro _ _ ⟨rfl, rfl⟩
    walk_at "x"
    refine x_ite (fun h1 => ?_) (fun h1 => ?_)
    · walk_at "x"
      refine ⟨d, n, m, rfl, m2, m9, hD2, ?_⟩
      rintro _ H3 ⟨u, rfl, u0, u1, ug⟩ hD3 hk3
      walk_at "x"
      refine ⟨by show 3 ≤ sizeLine; decide, fun p hp => ?_⟩
      exact q _ _ ⟨p, .scale t u, rfl, upd_same, ⟨htc, u0, u1, ug⟩⟩ (hD3.upd0 hp) (kput (hk2.trans hk3) (hk2.free hD2 (hk3.free hD3 hp)))
    walk_at "x"
    refine x_cut (fun σ' H' => [some (V.ref d), some (.int (m : Int)), some (.int (c : Int)), some (.int (i : Int)), some (.bl pr), some (.int (z % 8)), some (.int (t : Int)), none, none, none, none, none, none] = σ' ∧ H2 = H') ?_ ?_
    · walk_at "x"
      refine x_ite (fun h2 => ?_) (fun h2 => ?_)
      · walk_at "x"
        refine x_iteB (fun hp => ?_) (fun hp => ?_)
        · walk_at "x"
          refine x_ite (fun h3 => ?_) (fun h3 => ?_)
          · walk_at "x"
            refine ⟨d, n, rfl, hD2, ?_⟩
            rintro _ H3 ⟨w, rfl, w0, w1⟩ hD3 hk3
            have hk3 := hk2.trans hk3
            walk_at "x"
            obtain ⟨o, eo, o1, o2⟩ : ∃ o : Int, 1 + w % ((c : Int) - 2) = o ∧ 1 ≤ o ∧ o ≤ (c : Int) - 2 := ⟨_, rfl, by have := Int.emod_nonneg w (show (c : Int) - 2 ≠ 0 by omega); omega, by have := Int.emod_lt_of_pos w (show (0 : Int) < (c : Int) - 2 by omega); omega⟩
            rw [eo]
            refine ⟨d, n, rfl, hD3, ?_⟩
            rintro _ H4 ⟨x, rfl, x0, x1⟩ hD4 hk4
            have hk4 := hk3.trans hk4
            walk_at "x"
            obtain ⟨l, el, l1, l2⟩ : ∃ l : Int, o + 1 + x % ((c : Int) - 1 - o) = l ∧ o < l ∧ l < (c : Int) := ⟨_, rfl, by have := Int.emod_nonneg x (show (c : Int) - 1 - o ≠ 0 by omega); omega, by have := Int.emod_lt_of_pos x (show (0 : Int) < (c : Int) - 1 - o by omega); omega⟩
            rw [el]
            refine ⟨by show 2 ≤ sizeLine; decide, fun p hp0 => ?_⟩
            obtain ⟨a, b, ea, eb, ac, bc, ta, tb, ab⟩ := wrap_two htc o1 l1 l2
            rw [ea, eb]
            have hD5 := hD4.upd0 (o := .tup [.int (a : Int), .int (b : Int)]) hp0
            have hk5 := kput (o := .tup [.int (a : Int), .int (b : Int)]) hk4 (hk4.free hD4 hp0)
            walk_at "x"
            refine x_cut (fun σ' H' => ∃ (p : Addr) (a b : Nat), [some (V.ref d), some (.int (m : Int)), some (.int (c : Int)), some (.int (i : Int)), some (.bl pr), some (.int (z % 8)), some (.int (t : Int)), some (.int o), some (.int l), some (.ref p), none, none, none] = σ' ∧ Dr H' d n ∧ Keep d H H' ∧ H' p = some (.tup [.int (a : Int), .int (b : Int)]) ∧ a < c ∧ b < c ∧ t ≠ a ∧ t ≠ b ∧ a ≠ b) ?_ ?_
            · walk_at "x"
              refine ⟨d, n, rfl, hD5, ?_⟩
              rintro _ H6 ⟨v, rfl, v0, v1⟩ hD6 hk6
              have hp6 := keep_tups hk6 hD5 _ _ upd_same
              have hk6 := hk5.trans hk6
              walk_at "x"
              refine x_ite (fun hv => ?_) (fun hv => ?_)
              · walk_at "x"
                refine x_ixT (v := .int (b : Int)) (st_of hp6) (atI_nat (j := 1) rfl) ?_
                walk_at "x"
                refine x_ixT (v := .int (a : Int)) (st_of hp6) (atI_nat (j := 0) rfl) ?_
                walk_at "x"
                refine ⟨by show 2 ≤ sizeLine; decide, fun p2 hp2 => ?_⟩
                walk_at "x"
                exact ⟨p2, b, a, rfl, hD6.upd0 hp2, kput hk6 (hk6.free hD6 hp2), upd_same, bc, ac, tb, ta, ab.symm⟩
              · walk_at "x"
                exact ⟨p, a, b, rfl, hD6, hk6, hp6, ac, bc, ta, tb, ab⟩
            clear hp0 hD5 hk5 ea eb
            clear ac bc ta tb ab
            rintro _ H6 ⟨p, a, b, rfl, hD6, hk6, hp6, ac, bc, ta, tb, ab⟩
            walk_at "x"
            refine ⟨by show 2 ≤ sizeLine; decide, fun u hu => ?_⟩
            have hne := hD6.new hu
            have hp7 := same_upd (o := .lst [.int 1, .int ((m : Int) - 1)]) hu _ _ hp6
            have hk7 := kput (o := .lst [.int 1, .int ((m : Int) - 1)]) hk6 (hk6.free hD6 hu)
            have hD7 := hD6.upd0 (o := .lst [.int 1, .int ((m : Int) - 1)]) hu
            walk_at "x"
            refine ⟨d, n, rfl, hD7, ?_⟩
            rintro _ H8 ⟨v, rfl, v0, v1⟩ hD8 hk8
            have hp8 := keep_tups hk8 hD7 _ _ hp7
            walk_at "x"
            obtain ⟨g, hv, hm⟩ := at_lt (xs := [.int 1, .int ((m : Int) - 1)]) (i := v % 2) (Int.emod_nonneg _ (by decide)) (Int.emod_lt_of_pos v (show (0 : Int) < 2 by decide))
            refine x_ixL (sq_of (hk8 _ _ upd_same hne)) hv ?_
            have hk8 := hk7.trans hk8
            obtain ⟨g, rfl, hg⟩ : ∃ g' : Int, g = .int g' ∧ (g' = 1 ∨ g' = (m : Int) - 1) := by
              have hm' : g = .int 1 ∨ g = .int ((m : Int) - 1) := by simpa using hm
              rcases hm' with e | e
              · exact ⟨_, e, .inl rfl⟩
              · exact ⟨_, e, .inr rfl⟩
            walk_at "x"
            refine ⟨d, n, m, rfl, m2, hD8, ?_⟩
            rintro _ H9 ⟨f, tbl, rfl, hT, hI, hl4⟩ hD9 hk9
            have hp9 := keep_tups hk9 hD8 _ _ hp8
            have hk9 := hk8.trans hk9
            walk_at "x"
            refine x_ixT (v := .int (a : Int)) (st_of hp9) (atI_nat (j := 0) rfl) ?_
            walk_at "x"
            refine x_ixT (v := .int (b : Int)) (st_of hp9) (atI_nat (j := 1) rfl) ?_
            walk_at "x"
            refine ⟨by show 6 ≤ sizeLine; decide, fun r hr0 => ?_⟩
            exact q _ _ ⟨r, .tab t g tbl a b, rfl, ⟨f, upd_same, hT.tups (Tups.same (same_upd hr0))⟩, ⟨htc, ac, bc, ta, tb, ab, hg, hI, by omega, hpr hp⟩⟩ (hD9.upd0 hr0) (kput hk9 (hk9.free hD9 hr0))
          · walk_at "x"
            exact ⟨rfl, rfl⟩
        · walk_at "f"
          exact ⟨rfl, rfl⟩
      · walk_at "f"
        exact ⟨rfl, rfl⟩
    rintro _ _ ⟨rfl, rfl⟩
    walk_at "x"
    refine ⟨Nat.zero_le _, fun o ho => ?_⟩
    have hD3 := hD2.upd0 (o := .lst []) ho
    have hk3 := kput (o := .lst []) hk2 (hk2.free hD2 ho)
    walk_at "x"
    refine x_cut (fun σ' H' => ∃ o : Addr, [some (V.ref d), some (.int (m : Int)), some (.int (c : Int)), some (.int (i : Int)), some (.bl pr), some (.int (z % 8)), some (.int (t : Int)), none, none, none, none, some (.ref o), none] = σ' ∧ ∃ k, k ≤ 3 ∧ FacsI H t c i d n o k H') ?_ ?_
    · have body : ∀ R : VK, (1 < c ∨ 0 < i) → (∀ (o : Addr) (k : Nat) (H' : Hp), k ≤ 3 → FacsI H t c i d n o k H' → R (.ref o) H') → ∀ (v : Int) (H4 : Hp), 0 ≤ v → Dr H4 d n → Keep d H H4 → ∀ te : TE, (∀ (w : Int) (H5 : Hp) (R : VK), Dr H5 d n → RetH d n (fun v H' => ∃ (b : Addr) (f : Fac), v = .ref b ∧ FacAt H' b f ∧ FacOk c i t f) H5 R → te [some (V.ref d), some (.int (m : Int)), some (.int (c : Int)), some (.int (i : Int)), some (.bl pr), some (.int (z % 8)), some (.int (t : Int)), none, none, none, none, some (.ref o), some (.int w)] H5 R) →
          tLc (iRng1 (tCons (tC (.int (v % 4))) tNil)) (gName 12) tYes te [12] [some (V.ref d), some (.int (m : Int)), some (.int (c : Int)), some (.int (i : Int)), some (.bl pr), some (.int (z % 8)), some (.int (t : Int)), none, none, none, none, some (.ref o), none] H4 R := by
        intro R hor fin v H4 v0 hD4 hk4 te hte
        have w0 := Int.emod_nonneg v (show (4 : Int) ≠ 0 by decide)
        have w1 := Int.emod_lt_of_pos v (show (0 : Int) < 4 by decide)
        refine x_lcR1 (v % 4) (fun o k H' => FacsI H t c i d n o k H') (fun R r => r) (by omega) (by omega) (fun o ho => ⟨hD4.upd0 ho, kput hk4 (hk4.free hD4 ho), hD4.new ho, hD4.newN ho, [], [], upd_same, rfl, rfl, fun j x b h _ => by simp at h, fun f h => by simp at h⟩) (fun x => rfl) ?_ ?_
        · rintro o k H5 ho5 hk ⟨hD5, hk5, hod, hon, as, fs, hO, hal, hfl, hat, hok⟩
          refine hte _ _ _ hD5 ?_
          rintro _ H6 ⟨b, f, rfl, hf, hfo⟩ hD6 hk6
          have hO6 := hk6 _ _ hO hod
          refine ⟨_, hO6, lt_line (by rw [List.length_map]; omega), hD6.upd hod hon, kput (hk5.trans hk6) (hk4.free hD4 ho5), hod, hon, as ++ [b], fs ++ [f], by rw [upd_same, List.map_append]; rfl, by rw [List.length_append, hal]; rfl, by rw [List.length_append, hfl]; rfl, ?_, ?_⟩
          · intro j x b' e1 e2
            have hT : Tups H5 (upd H6 o (.lst (as.map V.ref ++ [V.ref b]))) := (keep_tups hk6 hD5).put (no_tupL hO6)
            have hT2 : Tups H6 (upd H6 o (.lst (as.map V.ref ++ [V.ref b]))) := (Tups.refl H6).put (no_tupL hO6)
            rcases snoc_at hfl e1 with ⟨h1, e1⟩ | ⟨rfl, rfl⟩
            · rcases snoc_at hal e2 with ⟨h2, e2⟩ | ⟨rfl, rfl⟩
              · exact (hat j x b' e1 e2).tups hT
              · omega
            · rcases snoc_at hal e2 with ⟨h2, e2⟩ | ⟨_, rfl⟩
              · omega
              · exact hf.tups hT2
          · intro x hx
            rcases List.mem_append.mp hx with hx | hx
            · exact hok x hx
            · rw [List.mem_singleton.mp hx]; exact hfo
        · rintro o H5 ho5 hI
          exact fin o _ H5 (by omega) hI
      have fin : ∀ (o : Addr) (k : Nat) (H' : Hp), k ≤ 3 → FacsI H t c i d n o k H' → ∃ o' : Addr, [some (V.ref d), some (.int (m : Int)), some (.int (c : Int)), some (.int (i : Int)), some (.bl pr), some (.int (z % 8)), some (.int (t : Int)), none, none, none, none, some (.ref o'), none] = [some (V.ref d), some (.int (m : Int)), some (.int (c : Int)), some (.int (i : Int)), some (.bl pr), some (.int (z % 8)), some (.int (t : Int)), none, none, none, none, some (.ref o), none] ∧ ∃ k, k ≤ 3 ∧ FacsI H t c i d n o' k H' := fun o k H' hk hI => ⟨o, rfl, k, hk, hI⟩
      walk_at "x"
      refine x_ite (fun h1 => ?_) (fun h1 => ?_)
      · walk_at "t"
        refine x_lcPre ?_
        walk_at "x"
        refine ⟨d, n, rfl, hD3, ?_⟩
        rintro _ H4 ⟨v, rfl, v0, v1⟩ hD4 hk4
        walk_at "x"
        refine body _ (.inl (by omega)) (fun o k H' hk hI => ?_) v H4 v0 hD4 (hk3.trans hk4) _ (fun w H5 R hD5 hR => ?_)
        · walk_at "x"
          exact fin o k H' hk hI
        · walk_at "x"
          exact ⟨d, n, t, c, i, rfl, htc, c60, i60, .inl (by omega), hD5, hR⟩
      · walk_at "x"
        refine x_ite (fun h2 => ?_) (fun h2 => ?_)
        · walk_at "x"
          refine x_lcPre ?_
          walk_at "x"
          refine ⟨d, n, rfl, hD3, ?_⟩
          rintro _ H4 ⟨v, rfl, v0, v1⟩ hD4 hk4
          walk_at "x"
          refine body _ (.inr (by omega)) (fun o k H' hk hI => ?_) v H4 v0 hD4 (hk3.trans hk4) _ (fun w H5 R hD5 hR => ?_)
          · walk_at "x"
            exact fin o k H' hk hI
          · walk_at "x"
            exact ⟨d, n, t, c, i, rfl, htc, c60, i60, .inr (by omega), hD5, hR⟩
        · walk_at "x"
          exact ⟨o, rfl, 0, by omega, hD3, hk3, hD2.new ho, hD2.newN ho, [], [], upd_same, rfl, rfl, fun j x b h _ => by simp at h, fun f h => by simp at h⟩
    clear hD3 hk3 ho
    rintro _ H4 ⟨o, rfl, k, hk, hD4, hk4, hod, hon, as, fs, hO, hal, hfl, hat, hok⟩
    walk_at "x"
    refine ⟨d, n, _, rfl, by omega, hD4, ?_⟩
    rintro _ H5 ⟨u, rfl, u0, u1⟩ hD5 hk5
    walk_at "x"
    refine x_tupL (sq_of (hk5 _ _ hO hod)) fun r hr0 => ?_
    walk_at "x"
    refine ⟨by show 4 ≤ sizeLine; decide, fun p hp => ?_⟩
    have hT : Tups H4 (upd (upd H5 r (.tup (as.map V.ref))) p (.tup [.str "add", .int (t : Int), .int u, .ref r])) := (keep_tups hk5 hD4).trans (Tups.same ((same_upd hr0).trans (same_upd hp)))
    exact q _ _ ⟨p, .add t u fs, rfl, ⟨r, as, upd_same, same_upd hp _ _ upd_same, by omega, fun j x b e1 e2 => (hat j x b e1 e2).tups hT⟩, ⟨htc, u0, u1, by omega, hok⟩⟩ ((hD5.upd0 hr0).upd0 hp) (kput (kput (hk4.trans hk5) (hk4.free hD4 (hk5.free hD5 hr0))) (hk4.free hD4 (hk5.free hD5 ((same_upd hr0).free hp))))


end
end Br
namespace Br
open PySem PySem.Spec PyProof.Rows L2
local macro_rules | `(tactic| walk_at "x1") => `(tactic| (with_reducible first
  | refine Br.x_seq ?_ | refine Br.x_set ?_ | refine Br.x_asg ?_ | refine Br.x_next ?_ | refine Br.x_ret ?_ | refine Br.x_retN ?_ | refine Br.x_drop ?_ | refine Br.x_if ?_ | refine Br.x_brk ?_ | refine Br.x_cont ?_
  | refine Br.x_c ?_ | refine Br.x_op ?_ | refine Br.x_un ?_ | refine Br.x_I0 ?_ | refine Br.x_U ?_ | refine Br.x_EqI ?_ | refine Br.x_NeI ?_ | refine Br.x_EqB ?_ | refine Br.x_iN ?_ | refine Br.x_int1 ?_ | refine Br.x_min2 ?_ | refine Br.x_max2 ?_ | refine Br.x_nN ?_ | refine Br.x_ifE ?_
  | refine Br.x_test (b := ()) ?_ | refine Br.x_tB ?_ | refine Br.x_bl ?_ | refine Br.x_and ?_ | refine Br.x_or ?_ | refine Br.x_not ?_ | refine Br.x_andV ?_ | refine Br.x_orV ?_ | refine Br.x_notV ?_ | refine Br.x_blP ?_
  | refine Br.x_nil ?_ | refine Br.x_cons ?_ | refine Br.x_call ?_ | refine Br.x_CB ?_ | refine Br.x_BM ?_ | refine Br.x_tup ?_ | refine Br.x_lst ?_ | refine Br.x_chain ?_ | refine Br.x_par ?_ | refine Br.x_gSub ?_ | refine Br.x_gName ?_ | refine Br.x_fld ?_ | refine Br.x_fldS ?_ | refine Br.x_match ?_ | refine Br.x_else ?_ | refine Br.x_noCase ?_))
local macro_rules | `(tactic| walk_at "xv") => `(tactic| ((with_reducible refine' Br.x_var ?hvar ?_); (case hvar => rfl)))
local macro_rules | `(tactic| walk_at "xd") => `(tactic| (dsimp only [List.set_cons_zero, List.set_cons_succ, List.cons_append, List.nil_append, List.append_nil]))
local macro_rules | `(tactic| walk_at "xi") => `(tactic| ((with_reducible refine Br.x_I ?hside ?_); (case hside => first | exact Br.mul_r (by decide) (by decide) | exact Br.mul_l (by decide) (by decide) | exact Br.mul_l (by omega) (by omega) | exact Br.mul_r (by omega) (by omega) | (show (0 : Int) < _; first | decide | omega) | exact ⟨by decide, by decide⟩ | exact ⟨by omega, by omega⟩ | exact ⟨by decide, by decide, by decide⟩)))
local macro_rules | `(tactic| walk_at "x") => `(tactic| (repeat (first | walk_at "x1" | walk_at "xv" | walk_at "xi" | walk_at "xd")))
local macro_rules | `(tactic| walk_at "start") => `(tactic| (simp only [L2.start, List.map_cons, List.map_nil, List.length_cons, List.length_nil, Nat.reduceAdd, Nat.reduceSub, List.replicate, List.cons_append, List.nil_append, List.append_nil]))
local macro_rules | `(tactic| walk_at "isi") => `(tactic| first
  | refine Br.x_isi (b := true) (.base (.int _)) (by decide +kernel) ?_ | refine Br.x_isi (b := false) (.base (.int _)) (by decide +kernel) ?_
  | refine Br.x_isi (b := true) (.base (.bl _)) (by decide +kernel) ?_ | refine Br.x_isi (b := false) (.base (.bl _)) (by decide +kernel) ?_
  | refine Br.x_isi (b := false) (.base .non) (by decide +kernel) ?_
  | refine Br.x_isi (b := true) (.base (.str _)) (by decide +kernel) ?_ | refine Br.x_isi (b := false) (.base (.str _)) (by decide +kernel) ?_
  | refine Br.x_isi (b := true) (.base (.tup (by assumption))) (by decide +kernel) ?_ | refine Br.x_isi (b := false) (.base (.tup (by assumption))) (by decide +kernel) ?_
  | refine Br.x_isi (b := true) (.base (.lst (by assumption))) (by decide +kernel) ?_ | refine Br.x_isi (b := false) (.base (.lst (by assumption))) (by decide +kernel) ?_)
local macro_rules | `(tactic| walk_at "f") => `(tactic| (refine L2.iteF ?_; walk_at "x"))
local macro_rules | `(tactic| walk_at "t") => `(tactic| (refine L2.iteT ?_; walk_at "x"))
local macro_rules | `(tactic| walk_at "is") => `(tactic| (walk_at "isi"; walk_at "x"))
local macro_rules | `(tactic| walk_at "xb") => `(tactic| (simp only [Br.bindS, List.set_cons_zero, List.set_cons_succ]; walk_at "x"))

section
variable {P : Program} {w : World} {K : PySem.W.Frag} {mg : Str → Option Value} {base : Heap}

open Br.F
structure PrOk (ss : List Stp) (m c i : Nat) : Prop where
  m2 : 2 ≤ m
  m9 : m ≤ 1000000000
  c1 : 1 ≤ c
  c60 : c ≤ 60
  i60 : i ≤ 60
  len : ss.length ≤ 20000
  ok : ∀ s, s ∈ ss → StpOk m c i s
def mdl (m c i : Int) (L : Addr) : List (Key × V) := [(.inr "modulus", .int m), (.inr "cells", .int c), (.inr "inputs", .int i), (.inr "steps", .ref L)]
theorem mdl_m {m c i : Int} {L : Addr} : valV (mdl m c i L) (.inr "modulus") = some (.int m) := rfl
theorem mdl_c {m c i : Int} {L : Addr} : valV (mdl m c i L) (.inr "cells") = some (.int c) := rfl
theorem mdl_i {m c i : Int} {L : Addr} : valV (mdl m c i L) (.inr "inputs") = some (.int i) := rfl
theorem mdl_s {m c i : Int} {L : Addr} : valV (mdl m c i L) (.inr "steps") = some (.ref L) := rfl
theorem mdl_mk {m c i : Int} {L : Addr} : mergeK [] (mdl m c i L) = mdl m c i L := rfl
section
variable {σ : L2.St} {H : Hp} {D : Ends} {Q : VK}
theorem x_disp {trs : List (TE × TE)} (h : ∀ p, H p = none → tPairs trs σ (upd H p (.dK [])) fun ps H2 => H2 p = some (.dK []) ∧ ∃ kvs : List (Key × V), ps = kvs.map (fun kv => (kV kv.1, kv.2)) ∧ kvs.length ≤ 15 ∧ Q (.ref p) (upd H2 p (.dK (mergeK [] kvs)))) : tDisp trs σ H Q := h
theorem x_pair0 {R : List (V × V) → Hp → Prop} (h : R [] H) : tPairs [] σ H R := h
theorem x_pair {R : List (V × V) → Hp → Prop} {tk tv : TE} {r : List (TE × TE)} (h : tk σ H fun x H1 => tv σ H1 fun y H2 => tPairs r σ H2 fun ps H3 => R ((x, y) :: ps) H3) : tPairs ((tk, tv) :: r) σ H R := h
theorem x_dgVC {i : Nat} {a : Addr} {z : Str} {v : V} {kvs : List (Key × V)} (hσ : σ[i]? = some (some (.ref a))) (hD : H a = some (.dK kvs)) (e : valV kvs (.inr z) = some v) (q : Q v H) : tDGet (tVar i) (tC (.str z)) σ H Q :=
  ⟨.ref a, hσ, a, v, rfl, .inl ⟨kvs, .inr z, .inl hD, rfl, e.symm⟩, q⟩
theorem x_make {C : Addr} {sp : Sp} {dvs : List V} {E : XK} {t : TA} (h : t σ H fun vs H1 => ∀ x dx, H1 x = none → H1 dx = none → dx ≠ x → sp (.ref x :: (vs ++ dvs)) (upd (upd H1 dx (.own x)) x (.ins C dx [])) (fun v H2 => v = .non ∧ Q (.ref x) H2) E) : tMake C sp dvs E t σ H Q := h
theorem x_meth {C : Addr} {m : Str} {sp : Sp} {dvs : List V} {E : XK} {ta : TE} {t : TA} (h : ta σ H fun x H1 => ∃ a dx fs, x = .ref a ∧ H1 a = some (.ins C dx fs) ∧ fs.lookup m = none ∧ t σ H1 fun vs H2 => sp (x :: (vs ++ dvs)) H2 Q E) : tMeth C m sp dvs E ta t σ H Q := h
end
/-- the law's model of a program -/
structure MdAt (H : Hp) (d D L : Addr) (as : List Addr) (ss : List Stp) (m c i : Nat) : Prop where
  dk : H D = some (.dK (mdl m c i L))
  lst : H L = some (.lst (as.map V.ref))
  ne : L ≠ d
  st : StpsAt H as ss
  ok : PrOk ss m c i
theorem MdAt.same {H H' : Hp} {d D L : Addr} {as : List Addr} {ss : List Stp} {m c i : Nat} (h : MdAt H d D L as ss m c i) (s : Same H H') : MdAt H' d D L as ss m c i := ⟨s _ _ h.dk, s _ _ h.lst, h.ne, h.st.tups (Tups.same s), h.ok⟩
theorem Keep.notL {d n b : Addr} {H H' : Hp} {o : HO} (k : Keep d H H') (h : Dr H d n) (e : H b = some o) (ho : ∀ xs, o ≠ .lst xs) : H' b = some o := by
  obtain ⟨_, _, h, _⟩ := h
  exact k _ _ e (ne_of e h (ho _))
theorem MdAt.keep {H H' : Hp} {d n D L : Addr} {as : List Addr} {ss : List Stp} {m c i : Nat} (h : MdAt H d D L as ss m c i) (hD : Dr H d n) (k : Keep d H H') : MdAt H' d D L as ss m c i :=
  ⟨k.notL hD h.dk (by intro _ z; cases z), k _ _ h.lst h.ne, h.ne, h.st.tups (keep_tups k hD), h.ok⟩

def StepsI (H0 : Hp) (m c i : Nat) (d nn o : Addr) (k : Nat) (H : Hp) : Prop := Dr H d nn ∧ Keep d H0 H ∧ o ≠ d ∧ o ≠ nn ∧ ∃ (as : List Addr) (ss : List Stp), H o = some (.lst (as.map V.ref)) ∧ StpsAt H as ss ∧ ss.length = k ∧ ∀ s, s ∈ ss → StpOk m c i s
def sp_law_program (K : PySem.W.Frag) : Sp := fun vs H Q _ => ∃ (d n : Addr) (mo : Nat), vs = [.ref d, .int (mo : Int)] ∧ mo ≤ 20000 ∧ Dr H d n ∧
  RetH d n (fun v H' => ∃ (D L : Addr) (as : List Addr) (ss : List Stp) (m c i : Nat), v = .ref D ∧ MdAt H' d D L as ss m c i ∧ ss.length ≤ mo) H Q
theorem ok_law_program (T : Txt K mg) : FnOk P w K mg base CX0 7 T.a_law_program T.fd_law_program ["draws", "most"] (sp_law_program K) := by
  refine T.F_law_program.ok sc_law_program (fun vs H Q E h => ?_) (fun cdv A outer s H vs Q E hr h => ?_)
  · obtain ⟨d, n, mo, rfl, _⟩ := h
    rfl
  · obtain ⟨d, n, mo, rfl, hmo, hD, q⟩ := h
    refine ⟨_, (pss_cons (ps_set (i := 2) sc_law_program.nd rfl (.inr rfl) (pe_cmpR op_eq (pe_op op_mod (pe_call (ok_law_draw T) (hr.mono (by decide)) (by rfl) T.g_law_draw T.F_law_draw.kp T.b_law_draw .nil pass0 (pa_cons (pv 0) pa_nil)) pe_int) pe_int (nomark _)))
      (pss_cons (ps_set (i := 3) sc_law_program.nd rfl (.inr rfl) (pe_call (ok_law_modulus T) (hr.mono (by decide)) (by rfl) T.g_law_modulus T.F_law_modulus.kp T.b_law_modulus .nil pass0 (pa_cons (pv 0) pa_nil)))
      (Evl.pss_cut (ps_if (pt_val (pv 2))
      (pss_one (ps_set (i := 3) sc_law_program.nd rfl (.inr rfl) (pe_call (ok_law_prime T) (hr.mono (by decide)) (by rfl) T.g_law_prime T.F_law_prime.kp T.b_law_prime .nil pass0 (pa_cons (pv 0) pa_nil))))
      pss_nil)
      (pss_cons (ps_set (i := 4) sc_law_program.nd rfl (.inr rfl) (pe_ix (r := rIxL K) ix_list (pe_lst (pa_cons pe_int (pa_cons pe_int (pa_cons pe_int (pa_cons pe_int (pa_cons pe_int (pa_cons pe_int pa_nil))))))) (pe_op op_mod (pe_call (ok_law_draw T) (hr.mono (by decide)) (by rfl) T.g_law_draw T.F_law_draw.kp T.b_law_draw .nil pass0 (pa_cons (pv 0) pa_nil)) pe_int) (fun _ _ => rfl)))
      (pss_cons (ps_set (i := 5) sc_law_program.nd rfl (.inr rfl) (pe_ix (r := rIxL K) ix_list (pe_lst (pa_cons pe_int (pa_cons pe_int (pa_cons pe_int (pa_cons pe_int pa_nil))))) (pe_op op_mod (pe_call (ok_law_draw T) (hr.mono (by decide)) (by rfl) T.g_law_draw T.F_law_draw.kp T.b_law_draw .nil pass0 (pa_cons (pv 0) pa_nil)) pe_int) (fun _ _ => rfl)))
      (pss_cons (ps_set (i := 6) sc_law_program.nd rfl (.inl rfl) (pe_op op_mod (pe_call (ok_law_draw T) (hr.mono (by decide)) (by rfl) T.g_law_draw T.F_law_draw.kp T.b_law_draw .nil pass0 (pa_cons (pv 0) pa_nil)) (pe_op op_add (pv 1) pe_int)))
      (pss_cons (ps_setLc (i := 7) (own := [("k", 8)]) (g := gName 8) (tt := tYes) rfl sc_law_program.nd rfl rfl (sw_true rfl rfl rfl (by decide +kernel)) (pi_range1 (by rfl) T.m_range (pa_cons (pv 6) pa_nil)) (blkOk_by (N := N_law_program) (sc := defScope s_law_program) (by decide +kernel)) (fun _ _ _ _ _ => (pg_name (i := 8) sc_law_program.nd rfl (Or.inl rfl))) (fun _ _ _ _ _ => pts_nil) (fun _ _ _ _ _ => (pe_call (ok_law_step T) hr (by rfl) T.g_law_step T.F_law_step.kp T.b_law_step .nil pass0 (pa_cons (pv 0) (pa_cons (pv 3) (pa_cons (pv 4) (pa_cons (pv 5) (pa_cons (pv 2) pa_nil))))))))
      (pss_one (ps_ret (pe_disp (pps_cons pe_str (pv 3) (pps_cons pe_str (pv 4) (pps_cons pe_str (pv 5) (pps_cons pe_str (pv 7) pps_nil)))) rfl rfl (fun h => nomatch h) (by decide))))))))))), ?_⟩
    walk_at "start"
    walk_at "x"
    refine ⟨d, n, rfl, hD, ?_⟩
    rintro _ H1 ⟨z, rfl, z0, z1⟩ hD1 hk1
    walk_at "x"
    generalize decide (z % 2 = 0) = b
    refine ⟨d, n, rfl, hD1, ?_⟩
    rintro _ H2 ⟨m0, rfl, m0l, m0u⟩ hD2 hk2
    have hk2 := hk1.trans hk2
    walk_at "x"
    refine x_cut (fun σ' H' => ∃ m : Nat, [some (V.ref d), some (.int (mo : Int)), some (.bl b), some (.int (m : Int)), none, none, none, none, none] = σ' ∧ Dr H' d n ∧ Keep d H H' ∧ 2 ≤ m ∧ m ≤ 1000000000 ∧ (b = true → IsPrime m)) ?_ ?_
    · walk_at "x"
      refine x_iteB (fun hb => ?_) (fun hb => ?_)
      · walk_at "x"
        refine ⟨d, n, rfl, hD2, ?_⟩
        rintro _ H3 ⟨m, rfl, hm, hm9⟩ hD3 hk3
        walk_at "x"
        exact ⟨m, rfl, hD3, hk2.trans hk3, hm.1, hm9, fun _ => hm⟩
      · walk_at "x"
        obtain ⟨m, rfl⟩ : ∃ m : Nat, m0 = (m : Int) := ⟨m0.toNat, by omega⟩
        exact ⟨m, rfl, hD2, hk2, by omega, by omega, fun h => by rw [hb] at h; cases h⟩
    rintro _ H3 ⟨m, rfl, hD3, hk3, m2, m9, hpr⟩
    walk_at "x"
    refine ⟨by show 6 ≤ sizeLine; decide, fun u hu => ?_⟩
    have hne := hD3.new hu
    have hk4 := kput (o := .lst [.int 1, .int 2, .int 3, .int 3, .int 4, .int 60]) hk3 (hk3.free hD3 hu)
    have hD4 := hD3.upd0 (o := .lst [.int 1, .int 2, .int 3, .int 3, .int 4, .int 60]) hu
    walk_at "x"
    refine ⟨d, n, rfl, hD4, ?_⟩
    rintro _ H5 ⟨y, rfl, y0, y1⟩ hD5 hk5
    walk_at "x"
    obtain ⟨g, hv, hm⟩ := at_lt (xs := [.int 1, .int 2, .int 3, .int 3, .int 4, .int 60]) (i := y % 6) (Int.emod_nonneg _ (by decide)) (Int.emod_lt_of_pos y (show (0 : Int) < 6 by decide))
    refine x_ixL (sq_of (hk5 _ _ upd_same hne)) hv ?_
    have hk5 := hk4.trans hk5
    obtain ⟨c, rfl, c1, c60⟩ : ∃ c : Nat, g = .int (c : Int) ∧ 1 ≤ c ∧ c ≤ 60 := by
      simp only [List.mem_cons, List.not_mem_nil, or_false] at hm
      rcases hm with rfl | rfl | rfl | rfl | rfl | rfl
      · exact ⟨1, rfl, by decide, by decide⟩
      · exact ⟨2, rfl, by decide, by decide⟩
      · exact ⟨3, rfl, by decide, by decide⟩
      · exact ⟨3, rfl, by decide, by decide⟩
      · exact ⟨4, rfl, by decide, by decide⟩
      · exact ⟨60, rfl, by decide, by decide⟩
    clear hu hne hv hm
    walk_at "x"
    refine ⟨by show 4 ≤ sizeLine; decide, fun u hu => ?_⟩
    have hne := hD5.new hu
    have hk6 := kput (o := .lst [.int 0, .int 1, .int 2, .int 60]) hk5 (hk5.free hD5 hu)
    have hD6 := hD5.upd0 (o := .lst [.int 0, .int 1, .int 2, .int 60]) hu
    walk_at "x"
    refine ⟨d, n, rfl, hD6, ?_⟩
    rintro _ H7 ⟨w, rfl, w0, w1⟩ hD7 hk7
    walk_at "x"
    obtain ⟨g, hv, hm⟩ := at_lt (xs := [.int 0, .int 1, .int 2, .int 60]) (i := w % 4) (Int.emod_nonneg _ (by decide)) (Int.emod_lt_of_pos w (show (0 : Int) < 4 by decide))
    refine x_ixL (sq_of (hk7 _ _ upd_same hne)) hv ?_
    have hk7 := hk6.trans hk7
    obtain ⟨i, rfl, i60⟩ : ∃ i : Nat, g = .int (i : Int) ∧ i ≤ 60 := by
      simp only [List.mem_cons, List.not_mem_nil, or_false] at hm
      rcases hm with rfl | rfl | rfl | rfl
      · exact ⟨0, rfl, by decide⟩
      · exact ⟨1, rfl, by decide⟩
      · exact ⟨2, rfl, by decide⟩
      · exact ⟨60, rfl, by decide⟩
    clear hu hne hv hm
    walk_at "x"
    refine ⟨d, n, rfl, hD7, ?_⟩
    rintro _ H8 ⟨x, rfl, x0, x1⟩ hD8 hk8
    have hk8 := hk7.trans hk8
    walk_at "x"
    obtain ⟨N, eN, hN⟩ := cast_lt (x := x % ((mo : Int) + 1)) (c := mo + 1) (Int.emod_nonneg x (show (mo : Int) + 1 ≠ 0 by omega)) (by have := Int.emod_lt_of_pos x (show (0 : Int) < (mo : Int) + 1 by omega); omega)
    rw [eN]
    refine x_lcR1 (N : Int) (fun o k H' => StepsI H m c i d n o k H') (fun R r => ⟨_, rfl, r⟩) (by omega) (by omega) (fun o ho => ⟨hD8.upd0 ho, kput hk8 (hk8.free hD8 ho), hD8.new ho, hD8.newN ho, [], [], upd_same, ⟨rfl, fun j x b h _ => by simp at h⟩, rfl, fun f h => by simp at h⟩) (fun x => rfl) ?_ ?_
    · rintro o k H9 ho9 hk ⟨hD9, hk9, hod, hon, as, ss, hO, hst, hsl, hok⟩
      walk_at "x"
      refine ⟨d, n, m, c, i, b, rfl, m2, m9, c1, c60, i60, hpr, hD9, ?_⟩
      rintro _ HA ⟨a, s, rfl, hs, hso⟩ hDA hkA
      have hOA := hkA _ _ hO hod
      have hT : Tups H9 (upd HA o (.lst (as.map V.ref ++ [V.ref a]))) := (keep_tups hkA hD9).put (no_tupL hOA)
      have hT2 : Tups HA (upd HA o (.lst (as.map V.ref ++ [V.ref a]))) := (Tups.refl HA).put (no_tupL hOA)
      refine ⟨_, hOA, lt_line (by rw [List.length_map, hst.1]; omega), hDA.upd hod hon, kput (hk9.trans hkA) (hk8.free hD8 ho9), hod, hon, as ++ [a], ss ++ [s], by rw [upd_same, List.map_append]; rfl, (hst.tups hT).snoc (hs.tups hT2), by rw [List.length_append, hsl]; rfl, ?_⟩
      intro x hx
      rcases List.mem_append.mp hx with hx | hx
      · exact hok x hx
      · rw [List.mem_singleton.mp hx]; exact hso
    · rintro o H9 ho9 ⟨hD9, hk9, hod, hon, as, ss, hO, hst, hsl, hok⟩
      walk_at "x"
      refine x_disp fun p hp => ?_
      refine x_pair ?_
      walk_at "x"
      refine x_pair ?_
      walk_at "x"
      refine x_pair ?_
      walk_at "x"
      refine x_pair ?_
      walk_at "x"
      refine x_pair0 ?_
      refine ⟨upd_same, mdl m c i o, rfl, Nat.le_of_ble_eq_true rfl, ?_⟩
      rw [mdl_mk]
      have hpd := hD9.new hp
      have hpn := hD9.newN hp
      have hpo : o ≠ p := ne_of_none hO hp
      have hT : Tups H9 (upd (upd H9 p (.dK [])) p (.dK (mdl m c i o))) := (Tups.same (same_upd (o := .dK []) hp)).put (fun xs e => by rw [upd_same] at e; cases e)
      exact q _ _ ⟨p, o, as, ss, m, c, i, rfl, ⟨upd_same, by rw [upd_ne hpo, upd_ne hpo]; exact hO, hod, hst.tups hT, ⟨m2, m9, c1, c60, i60, by omega, hok⟩⟩, by omega⟩ ((hD9.upd hpd hpn).upd hpd hpn) (kput (kput hk9 (hk9.free hD9 hp)) (hk9.free hD9 hp))


end
end Br
namespace Br
open PySem PySem.Spec PyProof.Rows L2
local macro_rules | `(tactic| walk_at "x1") => `(tactic| (with_reducible first
  | refine Br.x_seq ?_ | refine Br.x_set ?_ | refine Br.x_asg ?_ | refine Br.x_next ?_ | refine Br.x_ret ?_ | refine Br.x_retN ?_ | refine Br.x_drop ?_ | refine Br.x_if ?_ | refine Br.x_brk ?_ | refine Br.x_cont ?_
  | refine Br.x_c ?_ | refine Br.x_op ?_ | refine Br.x_un ?_ | refine Br.x_I0 ?_ | refine Br.x_U ?_ | refine Br.x_EqI ?_ | refine Br.x_NeI ?_ | refine Br.x_EqB ?_ | refine Br.x_iN ?_ | refine Br.x_int1 ?_ | refine Br.x_min2 ?_ | refine Br.x_max2 ?_ | refine Br.x_nN ?_ | refine Br.x_ifE ?_
  | refine Br.x_test (b := ()) ?_ | refine Br.x_tB ?_ | refine Br.x_bl ?_ | refine Br.x_and ?_ | refine Br.x_or ?_ | refine Br.x_not ?_ | refine Br.x_andV ?_ | refine Br.x_orV ?_ | refine Br.x_notV ?_ | refine Br.x_blP ?_
  | refine Br.x_nil ?_ | refine Br.x_cons ?_ | refine Br.x_call ?_ | refine Br.x_CB ?_ | refine Br.x_BM ?_ | refine Br.x_tup ?_ | refine Br.x_lst ?_ | refine Br.x_chain ?_ | refine Br.x_par ?_ | refine Br.x_gSub ?_ | refine Br.x_gName ?_ | refine Br.x_fld ?_ | refine Br.x_fldS ?_ | refine Br.x_match ?_ | refine Br.x_else ?_ | refine Br.x_noCase ?_))
local macro_rules | `(tactic| walk_at "xv") => `(tactic| ((with_reducible refine' Br.x_var ?hvar ?_); (case hvar => rfl)))
local macro_rules | `(tactic| walk_at "xd") => `(tactic| (dsimp only [List.set_cons_zero, List.set_cons_succ, List.cons_append, List.nil_append, List.append_nil]))
local macro_rules | `(tactic| walk_at "xi") => `(tactic| ((with_reducible refine Br.x_I ?hside ?_); (case hside => first | exact Br.mul_r (by decide) (by decide) | exact Br.mul_l (by decide) (by decide) | exact Br.mul_l (by omega) (by omega) | exact Br.mul_r (by omega) (by omega) | (show (0 : Int) < _; first | decide | omega) | exact ⟨by decide, by decide⟩ | exact ⟨by omega, by omega⟩ | exact ⟨by decide, by decide, by decide⟩)))
local macro_rules | `(tactic| walk_at "x") => `(tactic| (repeat (first | walk_at "x1" | walk_at "xv" | walk_at "xi" | walk_at "xd")))
local macro_rules | `(tactic| walk_at "start") => `(tactic| (simp only [L2.start, List.map_cons, List.map_nil, List.length_cons, List.length_nil, Nat.reduceAdd, Nat.reduceSub, List.replicate, List.cons_append, List.nil_append, List.append_nil]))
local macro_rules | `(tactic| walk_at "isi") => `(tactic| first
  | refine Br.x_isi (b := true) (.base (.int _)) (by decide +kernel) ?_ | refine Br.x_isi (b := false) (.base (.int _)) (by decide +kernel) ?_
  | refine Br.x_isi (b := true) (.base (.bl _)) (by decide +kernel) ?_ | refine Br.x_isi (b := false) (.base (.bl _)) (by decide +kernel) ?_
  | refine Br.x_isi (b := false) (.base .non) (by decide +kernel) ?_
  | refine Br.x_isi (b := true) (.base (.str _)) (by decide +kernel) ?_ | refine Br.x_isi (b := false) (.base (.str _)) (by decide +kernel) ?_
  | refine Br.x_isi (b := true) (.base (.tup (by assumption))) (by decide +kernel) ?_ | refine Br.x_isi (b := false) (.base (.tup (by assumption))) (by decide +kernel) ?_
  | refine Br.x_isi (b := true) (.base (.lst (by assumption))) (by decide +kernel) ?_ | refine Br.x_isi (b := false) (.base (.lst (by assumption))) (by decide +kernel) ?_)
local macro_rules | `(tactic| walk_at "f") => `(tactic| (refine L2.iteF ?_; walk_at "x"))
local macro_rules | `(tactic| walk_at "t") => `(tactic| (refine L2.iteT ?_; walk_at "x"))
local macro_rules | `(tactic| walk_at "is") => `(tactic| (walk_at "isi"; walk_at "x"))
local macro_rules | `(tactic| walk_at "xb") => `(tactic| (simp only [Br.bindS, List.set_cons_zero, List.set_cons_succ]; walk_at "x"))

section
variable {P : Program} {w : World} {K : PySem.W.Frag} {mg : Str → Option Value} {base : Heap}

open Br.F
/-! ### data that the law takes and spoils (k04) -/
theorem al_nil {P : PyData → Prop} : ∀ x, x ∈ ([] : List PyData) → P x := fun x hx => by simp at hx
theorem al_cons {P : PyData → Prop} {e : PyData} {es : List PyData} (h : P e) (hs : ∀ x, x ∈ es → P x) : ∀ x, x ∈ e :: es → P x := fun x hx => (List.mem_cons.mp hx).elim (fun e1 => by rw [e1]; exact h) (hs x)
theorem al_app {P : PyData → Prop} {es fs : List PyData} (h : ∀ x, x ∈ es → P x) (h2 : ∀ x, x ∈ fs → P x) : ∀ x, x ∈ es ++ fs → P x := fun x hx => (List.mem_append.mp hx).elim (h x) (h2 x)
theorem al_take {P : PyData → Prop} {n : Nat} {es : List PyData} (h : ∀ x, x ∈ es → P x) : ∀ x, x ∈ es.take n → P x := fun x hx => h x (List.mem_of_mem_take hx)
theorem al_drop {P : PyData → Prop} {n : Nat} {es : List PyData} (h : ∀ x, x ∈ es → P x) : ∀ x, x ∈ es.drop n → P x := fun x hx => h x (List.mem_of_mem_drop hx)
theorem al_set {P : PyData → Prop} {n : Nat} {e : PyData} {es : List PyData} (h : ∀ x, x ∈ es → P x) (he : P e) : ∀ x, x ∈ es.set n e → P x := fun x hx => (List.mem_or_eq_of_mem_set hx).elim (h x) (fun z => by rw [z]; exact he)
/-- a part of a step: so deep, and no long tuple -/
def El (n : Nat) (e : PyData) : Prop := ShN n e ∧ ∀ rs, e = .tuple rs → rs.length ≤ 1000
theorem El.mono {n m : Nat} {e : PyData} (h : El n e) (hn : n ≤ m) : El m e := ⟨h.1.mono hn, h.2⟩
theorem El.int {n : Nat} {i : Int} : El n (.int i) := ⟨.int, fun rs h => by cases h⟩
theorem El.bl {n : Nat} {i : Bool} : El n (.bool i) := ⟨.bl, fun rs h => by cases h⟩
theorem El.non {n : Nat} : El n .none := ⟨.non, fun rs h => by cases h⟩
theorem El.str {n : Nat} {x : Str} (h : PyData.strOk x = true) : El n (.str x) := ⟨.str h, fun rs h => by cases h⟩
theorem El.tup {n : Nat} {es : List PyData} (h : ∀ e, e ∈ es → ShN n e) (hl : es.length ≤ 1000) : El (n + 1) (.tuple es) := ⟨.tup h, fun rs e => by cases e; exact hl⟩
theorem El.lst {n : Nat} {es : List PyData} (h : ∀ e, e ∈ es → ShN n e) : El (n + 1) (.list es) := ⟨.lst h, fun rs e => by cases e⟩
theorem el_sh {n : Nat} {es : List PyData} (h : ∀ e, e ∈ es → El n e) : ∀ e, e ∈ es → ShN n e := fun e he => (h e he).1
/-- a step of any shape, short -/
def St (e : PyData) : Prop := Sh e ∧ WdE e
theorem El.st {n : Nat} {e : PyData} (h : ∀ es, e = .tuple es → ∀ x, x ∈ es → ∀ rs, x = .tuple rs → rs.length ≤ 1000) (hs : ShN n e) (hn : n ≤ 60) : St e := ⟨hs.sh hn, h⟩
theorem St.tup {es : List PyData} (h : ∀ x, x ∈ es → El 5 x) : St (.tuple es) := ⟨(ShN.tup (el_sh h)).sh (by decide), fun fs e f hf rs he => by cases e; exact (h f hf).2 rs he⟩
theorem St.lst {es : List PyData} (h : ∀ x, x ∈ es → El 5 x) : St (.list es) := ⟨(ShN.lst (el_sh h)).sh (by decide), fun fs e => by cases e⟩
theorem St.of {n : Nat} {e : PyData} (h : ShN n e) (hn : n ≤ 60) (ht : ∀ es, e ≠ .tuple es) : St e := ⟨h.sh hn, fun es z => absurd z (ht es)⟩
def facD : Fac → PyData
  | .cell i => .tuple [.str "cell", .int (i : Int)]
  | .inp i => .tuple [.str "input", .int (i : Int)]
def rowV4 (r : List Int) : PyData := .tuple (r.map PyData.int)
def tbV4 (tb : List (List Int)) : PyData := .tuple (tb.map rowV4)
def stpEs : Stp → List PyData
  | .add t c fs => [.str "add", .int (t : Int), .int c, .tuple (fs.map facD)]
  | .scale t u => [.str "scale", .int (t : Int), .int u]
  | .swap a b => [.str "swap", .int (a : Int), .int (b : Int)]
  | .tab t s tb a b => [.str "table", .int (t : Int), .int s, tbV4 tb, .int (a : Int), .int (b : Int)]
theorem FacAt.dat {d a : Addr} {H : Hp} {f : Fac} (h : FacAt H a f) : DAt d H (.ref a) (facD f) := by
  cases f with
  | cell i => exact .tup h (.cons (.str _) (.cons (.int _) .nil))
  | inp i => exact .tup h (.cons (.str _) (.cons (.int _) .nil))
theorem facs_dat {d : Addr} {H : Hp} {as : List Addr} {fs : List Fac} (hl : as.length = fs.length) (h : ∀ (i : Nat) x b, fs[i]? = some x → as[i]? = some b → FacAt H b x) : DAts d H (as.map V.ref) (fs.map facD) :=
  DAts.of (by rw [List.length_map, List.length_map, hl]) fun i x e hx he => by
    obtain ⟨b, hb, rfl⟩ := map_getR hx
    rw [List.getElem?_map] at he
    cases hr : fs[i]? with
    | none => rw [hr] at he; cases he
    | some r =>
      rw [hr] at he
      cases he
      exact (h i r b hr hb).dat
theorem tb_dats4 {d a : Addr} {H : Hp} {tb : List (List Int)} (h : TbAt H a tb) : ∃ as : List Addr, H a = some (.tup (as.map V.ref)) ∧ as.length = tb.length ∧ DAts d H (as.map V.ref) (tb.map rowV4) := by
  obtain ⟨as, h1, h2, h3⟩ := h
  refine ⟨as, h1, h2, DAts.of (by rw [List.length_map, List.length_map, h2]) fun i x e hx he => ?_⟩
  obtain ⟨b, hb, rfl⟩ := map_getR hx
  rw [List.getElem?_map] at he
  cases hr : tb[i]? with
  | none => rw [hr] at he; cases he
  | some r =>
    rw [hr] at he
    cases he
    exact .tup (h3 i r b hr hb) DAts.ints
theorem tb_dat4 {d a : Addr} {H : Hp} {tb : List (List Int)} (h : TbAt H a tb) : DAt d H (.ref a) (tbV4 tb) := by
  obtain ⟨as, h1, _, h3⟩ := tb_dats4 (d := d) h
  exact .tup h1 h3
theorem StpAt.dat {d a : Addr} {H : Hp} {s : Stp} (h : StpAt H a s) : ∃ xs, H a = some (.tup xs) ∧ DAts d H xs (stpEs s) := by
  cases s with
  | add t c fs =>
    obtain ⟨f, as, h1, h2, h3, h4⟩ := h
    exact ⟨_, h1, .cons (.str _) (.cons (.int _) (.cons (.int _) (.cons (.tup h2 (facs_dat h3 h4)) .nil)))⟩
  | scale t u => exact ⟨_, h, .cons (.str _) (.cons (.int _) (.cons (.int _) .nil))⟩
  | swap i j => exact ⟨_, h, .cons (.str _) (.cons (.int _) (.cons (.int _) .nil))⟩
  | tab t s tb i j =>
    obtain ⟨c, h1, h2⟩ := h
    exact ⟨_, h1, .cons (.str _) (.cons (.int _) (.cons (.int _) (.cons (tb_dat4 h2) (.cons (.int _) (.cons (.int _) .nil)))))⟩
theorem sh_one4 {e : PyData} {n : Nat} (h : ShN n e) : ∀ x, x ∈ [e] → ShN n x := al_cons h al_nil
theorem fac_el {f : Fac} : El 1 (facD f) := by
  cases f with
  | cell i => exact .tup (al_cons (.str (by decide +kernel)) (al_cons .int al_nil)) (by show 2 ≤ 1000; decide)
  | inp i => exact .tup (al_cons (.str (by decide +kernel)) (al_cons .int al_nil)) (by show 2 ≤ 1000; decide)
theorem facs_sh {fs : List Fac} : ∀ x, x ∈ fs.map facD → ShN 1 x := fun x hx => by
  obtain ⟨f, _, rfl⟩ := List.mem_map.mp hx
  exact fac_el.1
theorem row_sh4 {r : List Int} : ShN 1 (rowV4 r) := ShN.tup (n := 0) fun e he => by
  obtain ⟨z, _, rfl⟩ := List.mem_map.mp he
  exact .int
theorem rows_sh4 {tb : List (List Int)} : ∀ x, x ∈ tb.map rowV4 → ShN 1 x := fun x hx => by
  obtain ⟨f, _, rfl⟩ := List.mem_map.mp hx
  exact row_sh4
theorem stp_el {m c i : Nat} {s : Stp} (ok : StpOk m c i s) : ∀ x, x ∈ stpEs s → El 2 x := by
  cases s with
  | add t k fs => exact al_cons (.str (by decide +kernel)) (al_cons .int (al_cons .int (al_cons (.tup facs_sh (by rw [List.length_map]; have := ok.2.2.2.1; omega)) al_nil)))
  | scale t u => exact al_cons (.str (by decide +kernel)) (al_cons .int (al_cons .int al_nil))
  | swap a b => exact al_cons (.str (by decide +kernel)) (al_cons .int (al_cons .int al_nil))
  | tab t s tb a b => exact al_cons (.str (by decide +kernel)) (al_cons .int (al_cons .int (al_cons (.tup rows_sh4 (by rw [List.length_map]; have := ok.2.2.2.2.2.2.2.2.1; omega)) (al_cons .int (al_cons .int al_nil)))))
theorem el_up {n m : Nat} {es : List PyData} (h : ∀ x, x ∈ es → El n x) (hn : n ≤ m) : ∀ x, x ∈ es → El m x := fun x hx => (h x hx).mono hn
theorem Dr.lst {H : Hp} {d n : Addr} (h : Dr H d n) : ∃ ys, H d = some (.lst ys) := by obtain ⟨_, _, h, _⟩ := h; exact ⟨_, h⟩

def sp_law_odd (K : PySem.W.Frag) : Sp := fun vs H Q _ => ∃ (d n D L : Addr) (as : List Addr) (ss : List Stp) (m c i : Nat), vs = [.ref d, .ref D] ∧ MdAt H d D L as ss m c i ∧ Dr H d n ∧ RetG d n (fun v H' => ∃ e, DNew H H' v e ∧ El 2 e) H Q
theorem ok_law_odd (T : Txt K mg) : FnOk P w K mg base CX0 3 T.a_law_odd T.fd_law_odd ["draws", "model"] (sp_law_odd K) := by
  refine T.F_law_odd.ok sc_law_odd (fun vs H Q E h => ?_) (fun cdv A outer s H vs Q E hr h => ?_)
  · obtain ⟨d, n, D, L, as, ss, m, c, i, rfl, _⟩ := h
    rfl
  · obtain ⟨d, n, D, L, as, ss, m, c, i, rfl, hM, hD, q⟩ := h
    refine ⟨_, (pss_cons (ps_set (i := 2) sc_law_odd.nd rfl (.inl rfl) (pe_lst (pa_cons (pe_un un_neg pe_int) (pa_cons pe_int (pa_cons pe_int (pa_cons pe_int (pa_cons (pe_op op_sub (pe_dget (hu_of hr) (pv 1) pe_str (fun _ _ => rfl)) pe_int) (pa_cons (pe_dget (hu_of hr) (pv 1) pe_str (fun _ _ => rfl)) (pa_cons (pe_dget (hu_of hr) (pv 1) pe_str (fun _ _ => rfl)) (pa_cons (pe_dget (hu_of hr) (pv 1) pe_str (fun _ _ => rfl)) (pa_cons pe_int (pa_cons pe_int (pa_cons (pe_op op_add (pe_op op_pow pe_int pe_int) pe_int) pa_nil)))))))))))))
      (pss_cons (ps_set (i := 3) sc_law_odd.nd rfl (.inl rfl) (pe_op op_cat (pv 2) (pe_lst (pa_cons pe_bl (pa_cons pe_bl (pa_cons pe_non (pa_cons pe_str (pa_cons pe_str (pa_cons (pe_tup pa_nil) (pa_cons (pe_tup (pa_cons pe_int pa_nil)) (pa_cons (pe_lst pa_nil) (pa_cons (pe_lst (pa_cons pe_int pa_nil)) (pa_cons (pe_tup (pa_cons pe_str (pa_cons pe_int pa_nil))) (pa_cons (pe_tup (pa_cons pe_str (pa_cons pe_int pa_nil))) pa_nil))))))))))))))
      (pss_one (ps_ret (pe_ix (r := rIxL K) ix_list (pv 3) (pe_op op_mod (pe_call (ok_law_draw T) hr (by rfl) T.g_law_draw T.F_law_draw.kp T.b_law_draw .nil pass0 (pa_cons (pv 0) pa_nil)) pe_int) (fun _ _ => rfl)))))), ?_⟩
    walk_at "start"
    walk_at "x"
    refine x_dgVC rfl hM.dk mdl_m ?_
    walk_at "x"
    refine x_dgVC rfl hM.dk mdl_m ?_
    walk_at "x"
    refine x_dgVC rfl hM.dk mdl_c ?_
    walk_at "x"
    refine x_dgVC rfl hM.dk mdl_i ?_
    walk_at "x"
    have hM0 := hM.ok.m2
    clear hM0
    refine ⟨by show 11 ≤ sizeLine; decide, fun u0 hu0 => ?_⟩
    have s1 := same_upd (o := .lst [.int (-1), .int 0, .int 1, .int 2, .int ((m : Int) - 1), .int (m : Int), .int (c : Int), .int (i : Int), .int 60, .int 61, .int (10 ^ Int.toNat 9 + 1)]) hu0
    have e1 : (upd H u0 (.lst [.int (-1), .int 0, .int 1, .int 2, .int ((m : Int) - 1), .int (m : Int), .int (c : Int), .int (i : Int), .int 60, .int 61, .int (10 ^ Int.toNat 9 + 1)])) u0 = some (.lst ([-1, 0, 1, 2, (m : Int) - 1, (m : Int), (c : Int), (i : Int), 60, 61, 10 ^ Int.toNat 9 + 1].map V.int)) := upd_same
    generalize upd H u0 (.lst [.int (-1), .int 0, .int 1, .int 2, .int ((m : Int) - 1), .int (m : Int), .int (c : Int), .int (i : Int), .int 60, .int 61, .int (10 ^ Int.toNat 9 + 1)]) = H1 at s1 e1
    have hbl : [-1, 0, 1, 2, (m : Int) - 1, (m : Int), (c : Int), (i : Int), 60, 61, 10 ^ Int.toNat 9 + 1].length = 11 := rfl
    generalize [-1, 0, 1, 2, (m : Int) - 1, (m : Int), (c : Int), (i : Int), 60, 61, 10 ^ Int.toNat 9 + 1] = bs at e1 hbl
    walk_at "x"
    refine ⟨by show 0 ≤ sizeLine; decide, fun t1 ht1 => ?_⟩
    have st1 := same_upd (o := .tup []) ht1
    have et1 : (upd H1 t1 (.tup [])) t1 = some (.tup []) := upd_same
    generalize upd H1 t1 (.tup []) = H2 at st1 et1
    walk_at "x"
    refine ⟨by show 1 ≤ sizeLine; decide, fun t2 ht2 => ?_⟩
    have st2 := same_upd (o := .tup [.int 1]) ht2
    have et2 : (upd H2 t2 (.tup [.int 1])) t2 = some (.tup [.int 1]) := upd_same
    generalize upd H2 t2 (.tup [.int 1]) = H3 at st2 et2
    walk_at "x"
    refine ⟨by show 0 ≤ sizeLine; decide, fun t3 ht3 => ?_⟩
    have st3 := same_upd (o := .lst []) ht3
    have et3 : (upd H3 t3 (.lst [])) t3 = some (.lst []) := upd_same
    generalize upd H3 t3 (.lst []) = H4 at st3 et3
    walk_at "x"
    refine ⟨by show 1 ≤ sizeLine; decide, fun t4 ht4 => ?_⟩
    have st4 := same_upd (o := .lst [.int 1]) ht4
    have et4 : (upd H4 t4 (.lst [.int 1])) t4 = some (.lst [.int 1]) := upd_same
    generalize upd H4 t4 (.lst [.int 1]) = H5 at st4 et4
    walk_at "x"
    refine ⟨by show 2 ≤ sizeLine; decide, fun t5 ht5 => ?_⟩
    have st5 := same_upd (o := .tup [.str "cell", .int 0]) ht5
    have et5 : (upd H5 t5 (.tup [.str "cell", .int 0])) t5 = some (.tup [.str "cell", .int 0]) := upd_same
    generalize upd H5 t5 (.tup [.str "cell", .int 0]) = H6 at st5 et5
    walk_at "x"
    refine ⟨by show 2 ≤ sizeLine; decide, fun t6 ht6 => ?_⟩
    have st6 := same_upd (o := .tup [.str "input", .int 0]) ht6
    have et6 : (upd H6 t6 (.tup [.str "input", .int 0])) t6 = some (.tup [.str "input", .int 0]) := upd_same
    generalize upd H6 t6 (.tup [.str "input", .int 0]) = H7 at st6 et6
    walk_at "x"
    refine ⟨by show 11 ≤ sizeLine; decide, fun t7 ht7 => ?_⟩
    have st7 := same_upd (o := .lst [.bl true, .bl false, .non, .str "add", .str "cell", .ref t1, .ref t2, .ref t3, .ref t4, .ref t5, .ref t6]) ht7
    have et7 : (upd H7 t7 (.lst [.bl true, .bl false, .non, .str "add", .str "cell", .ref t1, .ref t2, .ref t3, .ref t4, .ref t5, .ref t6])) t7 = some (.lst [.bl true, .bl false, .non, .str "add", .str "cell", .ref t1, .ref t2, .ref t3, .ref t4, .ref t5, .ref t6]) := upd_same
    generalize upd H7 t7 (.lst [.bl true, .bl false, .non, .str "add", .str "cell", .ref t1, .ref t2, .ref t3, .ref t4, .ref t5, .ref t6]) = H8 at st7 et7
    have s18 := ((((((st1.trans st2).trans st3).trans st4).trans st5).trans st6).trans st7)
    refine x_cat (s18 _ _ e1) et7 (by rw [List.length_map, hbl]; show 11 + 11 ≤ 1000000; decide) fun u hu => ?_
    have s9 := same_upd (o := .lst (bs.map V.int ++ [.bl true, .bl false, .non, .str "add", .str "cell", .ref t1, .ref t2, .ref t3, .ref t4, .ref t5, .ref t6])) hu
    have e9 : (upd H8 u (.lst (bs.map V.int ++ [.bl true, .bl false, .non, .str "add", .str "cell", .ref t1, .ref t2, .ref t3, .ref t4, .ref t5, .ref t6]))) u = some (.lst (bs.map V.int ++ [.bl true, .bl false, .non, .str "add", .str "cell", .ref t1, .ref t2, .ref t3, .ref t4, .ref t5, .ref t6])) := upd_same
    have s19 := s1.trans s18
    have hud : u ≠ d := (hD.same s19).new hu
    generalize upd H8 u (.lst (bs.map V.int ++ [.bl true, .bl false, .non, .str "add", .str "cell", .ref t1, .ref t2, .ref t3, .ref t4, .ref t5, .ref t6])) = H9 at s9 e9
    have s09 := s19.trans s9
    have hD9 := hD.same s09
    have f1 := (((((st2.trans st3).trans st4).trans st5).trans st6).trans st7).trans s9 _ _ et1
    have f2 := ((((st3.trans st4).trans st5).trans st6).trans st7).trans s9 _ _ et2
    have f3 := (((st4.trans st5).trans st6).trans st7).trans s9 _ _ et3
    have f4 := ((st5.trans st6).trans st7).trans s9 _ _ et4
    have f5 := (st6.trans st7).trans s9 _ _ et5
    have f6 := st7.trans s9 _ _ et6
    have n3 : ∀ p, H p ≠ none → t3 ≠ p := fun p hp e => hp (by rw [← e]; exact ((s1.trans st1).trans st2).free ht3)
    have n4 : ∀ p, H p ≠ none → t4 ≠ p := fun p hp e => hp (by rw [← e]; exact (((s1.trans st1).trans st2).trans st3).free ht4)
    clear e1 et1 et2 et3 et4 et5 et6 et7 s1 st1 st2 st3 st4 st5 st6 st7 s18 s19 s9
    walk_at "x"
    refine ⟨d, n, rfl, hD9, ?_⟩
    rintro _ HA ⟨y, rfl, y0, y1⟩ hDA kA
    walk_at "x"
    obtain ⟨g, hv, hm⟩ := at_lt (xs := bs.map V.int ++ [.bl true, .bl false, .non, .str "add", .str "cell", .ref t1, .ref t2, .ref t3, .ref t4, .ref t5, .ref t6]) (i := y % 22) (Int.emod_nonneg _ (by decide)) (by rw [List.length_append, List.length_map, hbl]; exact Int.emod_lt_of_pos y (show (0 : Int) < 22 by decide))
    refine x_ixL (sq_of (kA _ _ e9 hud)) hv ?_
    refine q _ _ ?_ hDA ((Same.keep s09).trans kA)
    have d3 := (hD.same s09)
    have g1 := keep_tupsG kA hD9 _ _ f1
    have g2 := keep_tupsG kA hD9 _ _ f2
    have g5 := keep_tupsG kA hD9 _ _ f5
    have g6 := keep_tupsG kA hD9 _ _ f6
    have g3 := kA _ _ f3 (n3 d (by obtain ⟨_, _, h, _⟩ := hD; rw [h]; exact fun z => nomatch z))
    have g4 := kA _ _ f4 (n4 d (by obtain ⟨_, _, h, _⟩ := hD; rw [h]; exact fun z => nomatch z))
    rcases List.mem_append.mp hm with hm | hm
    · obtain ⟨z, _, rfl⟩ := List.mem_map.mp hm
      exact ⟨_, fun p hp => .int _, .int⟩
    simp only [List.mem_cons, List.not_mem_nil, or_false] at hm
    rcases hm with rfl | rfl | rfl | rfl | rfl | rfl | rfl | rfl | rfl | rfl | rfl
    · exact ⟨_, fun p hp => .bl _, .bl⟩
    · exact ⟨_, fun p hp => .bl _, .bl⟩
    · exact ⟨_, fun p hp => .non, .non⟩
    · exact ⟨_, fun p hp => .str _, .str (by decide +kernel)⟩
    · exact ⟨_, fun p hp => .str _, .str (by decide +kernel)⟩
    · exact ⟨.tuple [], fun p hp => .tup g1 .nil, .tup al_nil (by decide)⟩
    · exact ⟨.tuple [.int 1], fun p hp => .tup g2 (.cons (.int _) .nil), .tup (al_cons .int al_nil) (by decide)⟩
    · exact ⟨.list [], fun p hp => .lst (n3 p hp) g3 .nil, .lst al_nil⟩
    · exact ⟨.list [.int 1], fun p hp => .lst (n4 p hp) g4 (.cons (.int _) .nil), .lst (al_cons .int al_nil)⟩
    · exact ⟨.tuple [.str "cell", .int 0], fun p hp => .tup g5 (.cons (.str _) (.cons (.int _) .nil)), .tup (al_cons (.str (by decide +kernel)) (al_cons .int al_nil)) (by decide)⟩
    · exact ⟨.tuple [.str "input", .int 0], fun p hp => .tup g6 (.cons (.str _) (.cons (.int _) .nil)), .tup (al_cons (.str (by decide +kernel)) (al_cons .int al_nil)) (by decide)⟩


end
end Br
namespace Br
open PySem PySem.Spec PyProof.Rows L2
local macro_rules | `(tactic| walk_at "x1") => `(tactic| (with_reducible first
  | refine Br.x_seq ?_ | refine Br.x_set ?_ | refine Br.x_asg ?_ | refine Br.x_next ?_ | refine Br.x_ret ?_ | refine Br.x_retN ?_ | refine Br.x_drop ?_ | refine Br.x_if ?_ | refine Br.x_brk ?_ | refine Br.x_cont ?_
  | refine Br.x_c ?_ | refine Br.x_op ?_ | refine Br.x_un ?_ | refine Br.x_I0 ?_ | refine Br.x_U ?_ | refine Br.x_EqI ?_ | refine Br.x_NeI ?_ | refine Br.x_EqB ?_ | refine Br.x_iN ?_ | refine Br.x_int1 ?_ | refine Br.x_min2 ?_ | refine Br.x_max2 ?_ | refine Br.x_nN ?_ | refine Br.x_ifE ?_
  | refine Br.x_test (b := ()) ?_ | refine Br.x_tB ?_ | refine Br.x_bl ?_ | refine Br.x_and ?_ | refine Br.x_or ?_ | refine Br.x_not ?_ | refine Br.x_andV ?_ | refine Br.x_orV ?_ | refine Br.x_notV ?_ | refine Br.x_blP ?_
  | refine Br.x_nil ?_ | refine Br.x_cons ?_ | refine Br.x_call ?_ | refine Br.x_CB ?_ | refine Br.x_BM ?_ | refine Br.x_tup ?_ | refine Br.x_lst ?_ | refine Br.x_chain ?_ | refine Br.x_par ?_ | refine Br.x_gSub ?_ | refine Br.x_gName ?_ | refine Br.x_fld ?_ | refine Br.x_fldS ?_ | refine Br.x_match ?_ | refine Br.x_else ?_ | refine Br.x_noCase ?_))
local macro_rules | `(tactic| walk_at "xv") => `(tactic| ((with_reducible refine' Br.x_var ?hvar ?_); (case hvar => rfl)))
local macro_rules | `(tactic| walk_at "xd") => `(tactic| (dsimp only [List.set_cons_zero, List.set_cons_succ, List.cons_append, List.nil_append, List.append_nil]))
local macro_rules | `(tactic| walk_at "xi") => `(tactic| ((with_reducible refine Br.x_I ?hside ?_); (case hside => first | exact Br.mul_r (by decide) (by decide) | exact Br.mul_l (by decide) (by decide) | exact Br.mul_l (by omega) (by omega) | exact Br.mul_r (by omega) (by omega) | (show (0 : Int) < _; first | decide | omega) | exact ⟨by decide, by decide⟩ | exact ⟨by omega, by omega⟩ | exact ⟨by decide, by decide, by decide⟩)))
local macro_rules | `(tactic| walk_at "x") => `(tactic| (repeat (first | walk_at "x1" | walk_at "xv" | walk_at "xi" | walk_at "xd")))
local macro_rules | `(tactic| walk_at "start") => `(tactic| (simp only [L2.start, List.map_cons, List.map_nil, List.length_cons, List.length_nil, Nat.reduceAdd, Nat.reduceSub, List.replicate, List.cons_append, List.nil_append, List.append_nil]))
local macro_rules | `(tactic| walk_at "isi") => `(tactic| first
  | refine Br.x_isi (b := true) (.base (.int _)) (by decide +kernel) ?_ | refine Br.x_isi (b := false) (.base (.int _)) (by decide +kernel) ?_
  | refine Br.x_isi (b := true) (.base (.bl _)) (by decide +kernel) ?_ | refine Br.x_isi (b := false) (.base (.bl _)) (by decide +kernel) ?_
  | refine Br.x_isi (b := false) (.base .non) (by decide +kernel) ?_
  | refine Br.x_isi (b := true) (.base (.str _)) (by decide +kernel) ?_ | refine Br.x_isi (b := false) (.base (.str _)) (by decide +kernel) ?_
  | refine Br.x_isi (b := true) (.base (.tup (by assumption))) (by decide +kernel) ?_ | refine Br.x_isi (b := false) (.base (.tup (by assumption))) (by decide +kernel) ?_
  | refine Br.x_isi (b := true) (.base (.lst (by assumption))) (by decide +kernel) ?_ | refine Br.x_isi (b := false) (.base (.lst (by assumption))) (by decide +kernel) ?_)
local macro_rules | `(tactic| walk_at "f") => `(tactic| (refine L2.iteF ?_; walk_at "x"))
local macro_rules | `(tactic| walk_at "t") => `(tactic| (refine L2.iteT ?_; walk_at "x"))
local macro_rules | `(tactic| walk_at "is") => `(tactic| (walk_at "isi"; walk_at "x"))
local macro_rules | `(tactic| walk_at "xb") => `(tactic| (simp only [Br.bindS, List.set_cons_zero, List.set_cons_succ]; walk_at "x"))

section
variable {P : Program} {w : World} {K : PySem.W.Frag} {mg : Str → Option Value} {base : Heap}

open Br.F
theorem rows_dat4 {d : Addr} {H : Hp} {ats : List Addr} {tb : List (List Int)} (hl : ats.length = tb.length) (h : ∀ (i : Nat) r b, tb[i]? = some r → ats[i]? = some b → H b = some (.tup (r.map V.int))) : DAts d H (ats.map V.ref) (tb.map rowV4) :=
  DAts.of (by rw [List.length_map, List.length_map, hl]) fun i x e hx he => by
    obtain ⟨b, hb, rfl⟩ := map_getR hx
    rw [List.getElem?_map] at he
    cases hr : tb[i]? with
    | none => rw [hr] at he; cases he
    | some r =>
      rw [hr] at he
      cases he
      exact .tup (h i r b hr hb) DAts.ints
theorem ints_sh4 {n : Nat} {r : List Int} : ∀ x, x ∈ r.map PyData.int → ShN n x := fun x hx => by
  obtain ⟨z, _, rfl⟩ := List.mem_map.mp hx
  exact .int
/-- data apart from all that stood there before, and from one list -/
abbrev Ap (H0 : Hp) (R : Addr) (H : Hp) (v : V) (e : PyData) : Prop := ∀ p, (H0 p ≠ none ∨ p = R) → DAt p H v e
theorem DNew.ap {H0 H4 H5 : Hp} {R : Addr} {v : V} {e : PyData} (h : DNew H4 H5 v e) (h0 : ∀ p, H0 p ≠ none → H4 p ≠ none) (hR : H4 R ≠ none) : Ap H0 R H5 v e := fun p hp => h p (hp.elim (h0 p) fun z => by rw [z]; exact hR)
theorem sn {H H' : Hp} (s : Same H H') {p : Addr} (h : H p ≠ none) : H' p ≠ none := fun e => h (s.free e)
theorem keep_some {d n : Addr} {H H' : Hp} (k : Keep d H H') (hD : Dr H' d n) : ∀ p, H p ≠ none → H' p ≠ none := fun p hp hn => hp (by
  cases e : H p with
  | none => rfl
  | some o =>
    by_cases h : p = d
    · rw [h] at hn; exact absurd hn hD.ne
    · rw [k _ _ e h] at hn; cases hn)

def sp_law_turned_table (K : PySem.W.Frag) : Sp := fun vs H Q _ => ∃ (d n D L a : Addr) (as : List Addr) (ss : List Stp) (m c i : Nat) (tb : List (List Int)), vs = [.ref d, .ref D, .ref a] ∧ MdAt H d D L as ss m c i ∧ TbAt H a tb ∧ IsTab m tb ∧ tb.length ≤ 1000 ∧ Dr H d n ∧ RetG d n (fun v H' => ∃ e, DNew H H' v e ∧ El 4 e) H Q
theorem ok_law_turned_table (T : Txt K mg) : FnOk P w K mg base CX0 4 T.a_law_turned_table T.fd_law_turned_table ["draws", "model", "table"] (sp_law_turned_table K) := by
  refine T.F_law_turned_table.ok sc_law_turned_table (fun vs H Q E h => ?_) (fun cdv A outer s H vs Q E hr h => ?_)
  · obtain ⟨d, n, D, L, a, as, ss, m, c, i, tb, rfl, _⟩ := h
    rfl
  · obtain ⟨d, n, D, L, a, as, ss, m, c, i, tb, rfl, hM, hT, hI, hl9, hD, q⟩ := h
    obtain ⟨ats, hA, hAl, hAr⟩ := id hT
    have hpos := hI.pos
    refine ⟨_, (pss_cons (ps_setLc (i := 3) (own := [("row", 7)]) (g := gName 7) (tt := tYes) rfl sc_law_turned_table.nd rfl rfl (sw_true rfl rfl rfl (by decide +kernel)) (pi_tup (pv 2)) (blkOk_by (N := N_law_turned_table) (sc := defScope s_law_turned_table) (by decide +kernel)) (fun _ _ _ _ _ => (pg_name (i := 7) sc_law_turned_table.nd rfl (Or.inl rfl))) (fun _ _ _ _ _ => pts_nil) (fun _ _ _ _ _ => (pe_callTy (T := "tuple") (r := rTupOf K) cr_tup_of (by rfl) T.m_tuple (by decide +kernel) (pa_cons (pv 7) pa_nil))))
      (pss_cons (ps_set (i := 4) sc_law_turned_table.nd rfl (.inl rfl) (pe_op op_mod (pe_call (ok_law_draw T) (hr.mono (by decide)) (by rfl) T.g_law_draw T.F_law_draw.kp T.b_law_draw .nil pass0 (pa_cons (pv 0) pa_nil)) (pe_callB (id := "len") (r := rLen K) cr_len (by rfl) T.m_len PySem.boot_len (pa_cons (pv 3) pa_nil))))
      (pss_cons (ps_set (i := 5) sc_law_turned_table.nd rfl (.inl rfl) (pe_op op_mod (pe_call (ok_law_draw T) (hr.mono (by decide)) (by rfl) T.g_law_draw T.F_law_draw.kp T.b_law_draw .nil pass0 (pa_cons (pv 0) pa_nil)) (pe_callB (id := "len") (r := rLen K) cr_len (by rfl) T.m_len PySem.boot_len (pa_cons (pv 3) pa_nil))))
      (pss_cons (ps_set (i := 6) sc_law_turned_table.nd rfl (.inl rfl) (pe_op op_mod (pe_call (ok_law_draw T) (hr.mono (by decide)) (by rfl) T.g_law_draw T.F_law_draw.kp T.b_law_draw .nil pass0 (pa_cons (pv 0) pa_nil)) pe_int))
      (Evl.pss_cut (ps_if (pt_cmpR op_lt (pv 6) pe_int (nomark _))
      (pss_one (ps_asg (pe_op (r := rCatA K) op_catA (pe_op (r := rCatA K) op_catA (pe_slice (r := rSlA K) sl_tupA (pe_ix (r := rIxL K) ix_list (pv 3) (pv 4) (fun _ _ => rfl)) po_none (po_some (pv 5))) (pe_tup (pa_cons (pe_call (ok_law_odd T) hr (by rfl) T.g_law_odd T.F_law_odd.kp T.b_law_odd .nil pass0 (pa_cons (pv 0) (pa_cons (pv 1) pa_nil))) pa_nil))) (pe_slice (r := rSlA K) sl_tupA (pe_ix (r := rIxL K) ix_list (pv 3) (pv 4) (fun _ _ => rfl)) (po_some (pe_op op_add (pv 5) pe_int)) po_none)) (pg_sub (pv 3) (pv 4) set_list)))
      (pss_one (ps_if (pt_cmpR op_eq (pv 6) pe_int (nomark _))
      (pss_one (ps_asg (pe_op (r := rCatA K) op_catA (pe_slice (r := rSlA K) sl_tupA (pe_ix (r := rIxL K) ix_list (pv 3) (pv 4) (fun _ _ => rfl)) po_none (po_some (pv 5))) (pe_slice (r := rSlA K) sl_tupA (pe_ix (r := rIxL K) ix_list (pv 3) (pv 4) (fun _ _ => rfl)) (po_some (pe_op op_add (pv 5) pe_int)) po_none)) (pg_sub (pv 3) (pv 4) set_list)))
      (pss_one (ps_if (pt_cmpR op_eq (pv 6) pe_int (nomark _))
      (pss_one (ps_asg (pe_op (r := rCatA K) op_catA (pe_ix (r := rIxL K) ix_list (pv 3) (pv 4) (fun _ _ => rfl)) (pe_tup (pa_cons pe_int pa_nil))) (pg_sub (pv 3) (pv 4) set_list)))
      (pss_one (ps_asg (pe_callTy (T := "list") (r := rListOf K) cr_list_of (by rfl) T.m_list (by decide +kernel) (pa_cons (pe_ix (r := rIxL K) ix_list (pv 3) (pv 4) (fun _ _ => rfl)) pa_nil)) (pg_sub (pv 3) (pv 4) set_list))))))))
      (pss_one (ps_ret (pe_callTy (T := "tuple") (r := rTupOf K) cr_tup_of (by rfl) T.m_tuple (by decide +kernel) (pa_cons (pv 3) pa_nil))))))))), ?_⟩
    walk_at "start"
    walk_at "x"
    refine x_lcTT (a := a) (ats.map V.ref) (fun p i H' => Same H H' ∧ H' p = some (.lst ((ats.take i).map V.ref))) (fun R r => by walk_at "x"; exact r) (st_of hA) (fun p hp => ⟨same_upd hp, upd_same⟩) (fun p i H' hp _ z => st_of (z.1 _ _ hA)) (fun x => rfl) ?_ ?_
    · rintro p i x H' hp hx ⟨s, hP⟩
      obtain ⟨b, hb, rfl⟩ := map_getR hx
      have hi : i < tb.length := by rw [← hAl]; exact (List.getElem?_eq_some_iff.mp hb).1
      have hri := List.getElem?_eq_getElem hi
      unfold tYes
      refine iteT ?_
      walk_at "x"
      refine ⟨b, _, rfl, .inr ⟨st_of (s _ _ (hAr i _ b hri hb)), ?_⟩⟩
      refine ⟨_, hP, lt_line (by rw [List.length_map, List.length_take]; omega), sput s hp, ?_⟩
      rw [upd_same, take_snoc hb, List.map_append]
      rfl
    rintro R H1 hR0 ⟨s1, hR⟩
    rw [List.length_map, List.take_length] at hR
    have hD1 := hD.same s1
    have hRd : R ≠ d := hD.new hR0
    have hRn : R ≠ n := hD.newN hR0
    have hml : (ats.map V.ref).length = tb.length := by rw [List.length_map, hAl]
    walk_at "x"
    refine ⟨d, n, rfl, hD1, ?_⟩
    rintro _ H2 ⟨y, rfl, y0, y1⟩ hD2 k2
    walk_at "x"
    refine x_len (sq_of (k2 _ _ hR hRd)) ?_
    rw [hml]
    walk_at "x"
    obtain ⟨at0, eat, hat⟩ := cast_lt (x := y % (tb.length : Int)) (c := tb.length) (Int.emod_nonneg y (by omega)) (Int.emod_lt_of_pos y (by omega))
    rw [eat]
    refine ⟨d, n, rfl, hD2, ?_⟩
    rintro _ H3 ⟨w, rfl, w0, w1⟩ hD3 k3
    have k3 := k2.trans k3
    walk_at "x"
    refine x_len (sq_of (k3 _ _ hR hRd)) ?_
    rw [hml]
    walk_at "x"
    obtain ⟨pl, epl, hpl⟩ := cast_lt (x := w % (tb.length : Int)) (c := tb.length) (Int.emod_nonneg w (by omega)) (Int.emod_lt_of_pos w (by omega))
    rw [epl]
    refine ⟨d, n, rfl, hD3, ?_⟩
    rintro _ H4 ⟨z, rfl, z0, z1⟩ hD4 k4
    have k4 := k3.trans k4
    have hR4 := k4 _ _ hR hRd
    have k04 := (Same.keep s1).trans k4
    have hM4 := hM.keep hD k04
    have tp4 := keep_tupsG k04 hD
    have hAr4 : ∀ (i : Nat) r b, tb[i]? = some r → ats[i]? = some b → H4 b = some (.tup (r.map V.int)) := fun i r b e1 e2 => tp4 _ _ (hAr i r b e1 e2)
    clear hR k2 k3 hD1 hD2 hD3 s1
    obtain ⟨row, hrow⟩ : ∃ row, tb[at0]? = some row := ⟨_, List.getElem?_eq_getElem hat⟩
    obtain ⟨b, hb⟩ : ∃ b, ats[at0]? = some b := ⟨_, List.getElem?_eq_getElem (by omega)⟩
    have hrl : row.length = tb.length := (hI.rows at0 row hrow).1
    have hbr : (ats.map V.ref)[at0]? = some (.ref b) := by rw [List.getElem?_map, hb]; rfl
    have hB4 := hAr4 at0 row b hrow hb
    have hvl : (row.map V.int).length = tb.length := by rw [List.length_map, hrl]
    walk_at "x"
    refine x_cut (fun σ' H' => ∃ (xs2 : List V) (es2 : List PyData), σ' = [some (.ref d), some (.ref D), some (.ref a), some (.ref R), some (.int (at0 : Int)), some (.int (pl : Int)), some (.int (z % 5)), none] ∧ H' R = some (.lst xs2) ∧ (∀ p, H p ≠ none → DAts p H' xs2 es2) ∧ es2.length ≤ 1000 ∧ (∀ x, x ∈ es2 → ShN 3 x) ∧ Dr H' d n ∧ Keep d H H') ?_ ?_
    · have fin : ∀ (H5 : Hp) (v : V) (e : PyData), Dr H5 d n → Keep d H4 H5 → Ap H R H5 v e → ShN 3 e → ∃ (xs2 : List V) (es2 : List PyData), [some (V.ref d), some (.ref D), some (.ref a), some (.ref R), some (.int (at0 : Int)), some (.int (pl : Int)), some (.int (z % 5)), none] = [some (V.ref d), some (.ref D), some (.ref a), some (.ref R), some (.int (at0 : Int)), some (.int (pl : Int)), some (.int (z % 5)), none] ∧ (upd H5 R (.lst ((ats.map V.ref).set at0 v))) R = some (.lst xs2) ∧ (∀ p, H p ≠ none → DAts p (upd H5 R (.lst ((ats.map V.ref).set at0 v))) xs2 es2) ∧ es2.length ≤ 1000 ∧ (∀ x, x ∈ es2 → ShN 3 x) ∧ Dr (upd H5 R (.lst ((ats.map V.ref).set at0 v))) d n ∧ Keep d H (upd H5 R (.lst ((ats.map V.ref).set at0 v))) := fun H5 v e hD5 k5 hv hsh => by
        have hR5 := k5 _ _ hR4 hRd
        refine ⟨_, (tb.map rowV4).set at0 e, rfl, upd_same, fun p hp => ?_, by rw [List.length_set, List.length_map]; exact hl9, al_set (fun x hx => (rows_sh4 x hx).mono (by decide)) hsh, hD5.upd hRd hRn, kput (k04.trans k5) hR0⟩
        have tp5 : ∀ (i : Nat) r b, tb[i]? = some r → ats[i]? = some b → (upd H5 R (.lst ((ats.map V.ref).set at0 v))) b = some (.tup (r.map V.int)) := fun i r b e1 e2 => by
          have := keep_tupsG k5 hD4 _ _ (hAr4 i r b e1 e2)
          rw [upd_ne (ne_of this hR5 (by intro z; cases z))]
          exact this
        exact (rows_dat4 hAl tp5).set (DAt.keep2 ⟨_, hR5⟩ (fun b o e h => by rw [upd_ne h]; exact e) e (hv R (.inr rfl)) (hv p (.inl hp)))
      walk_at "x"
      refine x_ite (fun h0 => ?_) (fun h0 => ?_)
      · walk_at "x"
        refine x_sl2 ?_
        walk_at "x"
        refine x_ixL (sq_of hR4) (atI_nat hbr) ?_
        refine x_part0 (x_part1 ?_)
        walk_at "x"
        refine ⟨_, rfl, x_slA hB4 fun r1 H5 s5 e5 => ?_⟩
        rw [cutV_to (by omega)] at e5
        walk_at "x"
        refine ⟨d, n, D, L, as, ss, m, c, i, rfl, hM4.same s5, hD4.same s5, ?_⟩
        rintro ov H6 ⟨oe, hov, hoe⟩ hD6 k6
        have hap : Ap H R H6 ov oe := hov.ap (fun p hp => sn s5 (keep_some k04 hD4 p hp)) (sn s5 (by rw [hR4]; exact fun z => nomatch z))
        have k46 := (Same.keep s5).trans k6
        have e6 := keep_tupsG k6 (hD4.same s5) _ _ e5
        walk_at "x"
        refine ⟨by show 1 ≤ sizeLine; decide, fun r2 hr2 => ?_⟩
        have sr2 := same_upd (o := .tup [ov]) hr2
        have er2 : (upd H6 r2 (.tup [ov])) r2 = some (.tup [ov]) := upd_same
        generalize upd H6 r2 (.tup [ov]) = H7 at sr2 er2
        have e7 := sr2 _ _ e6
        refine x_catA e7 er2 (by rw [List.length_take]; show min pl (row.map V.int).length + 1 ≤ 1000000; omega) fun r3 H8 s8 e8 => ?_
        have s68 := sr2.trans s8
        have k48 := k46.trans (Same.keep s68)
        have hR8 := k48 _ _ hR4 hRd
        have hB8 := keep_tupsG k48 hD4 _ _ hB4
        refine x_sl2 ?_
        walk_at "x"
        refine x_ixL (sq_of hR8) (atI_nat hbr) ?_
        refine x_part1 ?_
        walk_at "x"
        refine ⟨_, rfl, x_part0 (x_slA hB8 fun r4 H9 s9 e9 => ?_)⟩
        rw [show (pl : Int) + 1 = ((pl + 1 : Nat) : Int) from rfl, cutV_from (by omega)] at e9
        refine x_catA (s9 _ _ e8) e9 (by rw [List.length_append, List.length_take, List.length_drop]; show min pl (row.map V.int).length + 1 + _ ≤ 1000000; omega) fun r5 HE sE eE => ?_
        have sE := (s68.trans s9).trans sE
        have k4E := k46.trans (Same.keep sE)
        walk_at "x"
        refine x_subL (k4E _ _ hR4 hRd) (ixN_nat (by omega)) ?_
        exact fin HE (.ref r5) (.tuple ((row.map PyData.int).take pl ++ [oe] ++ (row.map PyData.int).drop (pl + 1))) (hD6.same sE) k4E (fun p hp => .tup eE (((DAts.ints.take).app (.cons (DAt.same sE _ (hap p hp)) .nil)).app DAts.ints.drop)) (.tup (al_app (al_app (al_take ints_sh4) (al_cons hoe.1 al_nil)) (al_drop ints_sh4)))
      walk_at "x"
      refine x_ite (fun h1 => ?_) (fun h1 => ?_)
      · walk_at "x"
        refine x_sl2 ?_
        walk_at "x"
        refine x_ixL (sq_of hR4) (atI_nat hbr) ?_
        refine x_part0 (x_part1 ?_)
        walk_at "x"
        refine ⟨_, rfl, x_slA hB4 fun r1 H5 s5 e5 => ?_⟩
        rw [cutV_to (by omega)] at e5
        refine x_sl2 ?_
        walk_at "x"
        refine x_ixL (sq_of (s5 _ _ hR4)) (atI_nat hbr) ?_
        refine x_part1 ?_
        walk_at "x"
        refine ⟨_, rfl, x_part0 (x_slA (s5 _ _ hB4) fun r4 H9 s9 e9 => ?_)⟩
        rw [show (pl : Int) + 1 = ((pl + 1 : Nat) : Int) from rfl, cutV_from (by omega)] at e9
        refine x_catA (s9 _ _ e5) e9 (by rw [List.length_take, List.length_drop]; omega) fun r5 HE sE eE => ?_
        have sE := (s5.trans s9).trans sE
        walk_at "x"
        refine x_subL (sE _ _ hR4) (ixN_nat (by omega)) ?_
        exact fin HE (.ref r5) (.tuple ((row.map PyData.int).take pl ++ (row.map PyData.int).drop (pl + 1))) (hD4.same sE) (Same.keep sE) (fun p hp => .tup eE ((DAts.ints.take).app DAts.ints.drop)) (.tup (al_app (al_take ints_sh4) (al_drop ints_sh4)))
      walk_at "x"
      refine x_ite (fun h2 => ?_) (fun h2 => ?_)
      · walk_at "x"
        refine x_ixL (sq_of hR4) (atI_nat hbr) ?_
        walk_at "x"
        refine ⟨by show 1 ≤ sizeLine; decide, fun r2 hr2 => ?_⟩
        have sr2 := same_upd (o := .tup [.int 0]) hr2
        have er2 : (upd H4 r2 (.tup [.int 0])) r2 = some (.tup [.int 0]) := upd_same
        generalize upd H4 r2 (.tup [.int 0]) = H7 at sr2 er2
        refine x_catA (sr2 _ _ hB4) er2 (by rw [hvl]; show tb.length + 1 ≤ 1000000; omega) fun r5 HE sE eE => ?_
        have sE := sr2.trans sE
        walk_at "x"
        refine x_subL (sE _ _ hR4) (ixN_nat (by omega)) ?_
        exact fin HE (.ref r5) (.tuple (row.map PyData.int ++ [.int 0])) (hD4.same sE) (Same.keep sE) (fun p hp => .tup eE (DAts.ints.app (.cons (.int 0) .nil))) (.tup (al_app ints_sh4 (al_cons .int al_nil)))
      · walk_at "x"
        refine x_ixL (sq_of hR4) (atI_nat hbr) ?_
        walk_at "x"
        refine x_listT (st_of hB4) fun l hl => ?_
        have sE := same_upd (o := .lst (row.map V.int)) hl
        have eE : (upd H4 l (.lst (row.map V.int))) l = some (.lst (row.map V.int)) := upd_same
        generalize upd H4 l (.lst (row.map V.int)) = HE at sE eE
        walk_at "x"
        refine x_subL (sE _ _ hR4) (ixN_nat (by omega)) ?_
        exact fin HE (.ref l) (.list (row.map PyData.int)) (hD4.same sE) (Same.keep sE) (fun p hp => .lst (fun z => hp.elim (fun hp => keep_some k04 hD4 p hp (by rw [← z]; exact hl)) (fun hp => by rw [hp] at z; rw [← z, hl] at hR4; cases hR4)) eE DAts.ints) (.lst ints_sh4)
    · rintro σ' H5 ⟨xs2, es2, rfl, hR5, hx5, hl5, hs5, hD5, k5⟩
      walk_at "x"
      refine x_tupL (sq_of hR5) fun l hl => ?_
      have sE := same_upd (o := .tup xs2) hl
      exact q _ _ ⟨.tuple es2, fun p hp => .tup upd_same (DAts.same sE _ (hx5 p hp)), .tup hs5 hl5⟩ (hD5.same sE) (k5.trans (Same.keep sE))


end
end Br
namespace Br
open PySem PySem.Spec PyProof.Rows L2
local macro_rules | `(tactic| walk_at "x1") => `(tactic| (with_reducible first
  | refine Br.x_seq ?_ | refine Br.x_set ?_ | refine Br.x_asg ?_ | refine Br.x_next ?_ | refine Br.x_ret ?_ | refine Br.x_retN ?_ | refine Br.x_drop ?_ | refine Br.x_if ?_ | refine Br.x_brk ?_ | refine Br.x_cont ?_
  | refine Br.x_c ?_ | refine Br.x_op ?_ | refine Br.x_un ?_ | refine Br.x_I0 ?_ | refine Br.x_U ?_ | refine Br.x_EqI ?_ | refine Br.x_NeI ?_ | refine Br.x_EqB ?_ | refine Br.x_iN ?_ | refine Br.x_int1 ?_ | refine Br.x_min2 ?_ | refine Br.x_max2 ?_ | refine Br.x_nN ?_ | refine Br.x_ifE ?_
  | refine Br.x_test (b := ()) ?_ | refine Br.x_tB ?_ | refine Br.x_bl ?_ | refine Br.x_and ?_ | refine Br.x_or ?_ | refine Br.x_not ?_ | refine Br.x_andV ?_ | refine Br.x_orV ?_ | refine Br.x_notV ?_ | refine Br.x_blP ?_
  | refine Br.x_nil ?_ | refine Br.x_cons ?_ | refine Br.x_call ?_ | refine Br.x_CB ?_ | refine Br.x_BM ?_ | refine Br.x_tup ?_ | refine Br.x_lst ?_ | refine Br.x_chain ?_ | refine Br.x_par ?_ | refine Br.x_gSub ?_ | refine Br.x_gName ?_ | refine Br.x_fld ?_ | refine Br.x_fldS ?_ | refine Br.x_match ?_ | refine Br.x_else ?_ | refine Br.x_noCase ?_))
local macro_rules | `(tactic| walk_at "xv") => `(tactic| ((with_reducible refine' Br.x_var ?hvar ?_); (case hvar => rfl)))
local macro_rules | `(tactic| walk_at "xd") => `(tactic| (dsimp only [List.set_cons_zero, List.set_cons_succ, List.cons_append, List.nil_append, List.append_nil]))
local macro_rules | `(tactic| walk_at "xi") => `(tactic| ((with_reducible refine Br.x_I ?hside ?_); (case hside => first | exact Br.mul_r (by decide) (by decide) | exact Br.mul_l (by decide) (by decide) | exact Br.mul_l (by omega) (by omega) | exact Br.mul_r (by omega) (by omega) | (show (0 : Int) < _; first | decide | omega) | exact ⟨by decide, by decide⟩ | exact ⟨by omega, by omega⟩ | exact ⟨by decide, by decide, by decide⟩)))
local macro_rules | `(tactic| walk_at "x") => `(tactic| (repeat (first | walk_at "x1" | walk_at "xv" | walk_at "xi" | walk_at "xd")))
local macro_rules | `(tactic| walk_at "start") => `(tactic| (simp only [L2.start, List.map_cons, List.map_nil, List.length_cons, List.length_nil, Nat.reduceAdd, Nat.reduceSub, List.replicate, List.cons_append, List.nil_append, List.append_nil]))
local macro_rules | `(tactic| walk_at "isi") => `(tactic| first
  | refine Br.x_isi (b := true) (.base (.int _)) (by decide +kernel) ?_ | refine Br.x_isi (b := false) (.base (.int _)) (by decide +kernel) ?_
  | refine Br.x_isi (b := true) (.base (.bl _)) (by decide +kernel) ?_ | refine Br.x_isi (b := false) (.base (.bl _)) (by decide +kernel) ?_
  | refine Br.x_isi (b := false) (.base .non) (by decide +kernel) ?_
  | refine Br.x_isi (b := true) (.base (.str _)) (by decide +kernel) ?_ | refine Br.x_isi (b := false) (.base (.str _)) (by decide +kernel) ?_
  | refine Br.x_isi (b := true) (.base (.tup (by assumption))) (by decide +kernel) ?_ | refine Br.x_isi (b := false) (.base (.tup (by assumption))) (by decide +kernel) ?_
  | refine Br.x_isi (b := true) (.base (.lst (by assumption))) (by decide +kernel) ?_ | refine Br.x_isi (b := false) (.base (.lst (by assumption))) (by decide +kernel) ?_)
local macro_rules | `(tactic| walk_at "f") => `(tactic| (refine L2.iteF ?_; walk_at "x"))
local macro_rules | `(tactic| walk_at "t") => `(tactic| (refine L2.iteT ?_; walk_at "x"))
local macro_rules | `(tactic| walk_at "is") => `(tactic| (walk_at "isi"; walk_at "x"))
local macro_rules | `(tactic| walk_at "xb") => `(tactic| (simp only [Br.bindS, List.set_cons_zero, List.set_cons_succ]; walk_at "x"))

section
variable {P : Program} {w : World} {K : PySem.W.Frag} {mg : Str → Option Value} {base : Heap}

open Br.F
theorem stpEs_len {s : Stp} : (stpEs s).length = 3 ∨ (stpEs s).length = 4 ∨ (stpEs s).length = 6 := by cases s <;> first | exact .inl rfl | exact .inr (.inl rfl) | exact .inr (.inr rfl)
theorem StpAt.dats {d a : Addr} {H : Hp} {s : Stp} {xs : List V} (h : StpAt H a s) (e : H a = some (.tup xs)) : DAts d H xs (stpEs s) := by
  obtain ⟨ys, h1, h2⟩ := h.dat (d := d)
  rw [h1] at e
  cases e
  exact h2
theorem FacAt.pair {a : Addr} {H : Hp} {f : Fac} (h : FacAt H a f) : ∃ (w : Str) (j : Int), PyData.strOk w = true ∧ H a = some (.tup [.str w, .int j]) := by
  cases f with
  | cell i => exact ⟨"cell", _, by decide +kernel, h⟩
  | inp i => exact ⟨"input", _, by decide +kernel, h⟩

def sp_law_turned (K : PySem.W.Frag) : Sp := fun vs H Q _ => ∃ (d n D L a : Addr) (as : List Addr) (ss : List Stp) (m c i : Nat) (s : Stp), vs = [.ref d, .ref D, .ref a] ∧ MdAt H d D L as ss m c i ∧ StpAt H a s ∧ StpOk m c i s ∧ Dr H d n ∧ RetG d n (fun v H' => ∃ e, DNew H H' v e ∧ St e) H Q
theorem ok_law_turned (T : Txt K mg) : FnOk P w K mg base CX0 5 T.a_law_turned T.fd_law_turned ["draws", "model", "step"] (sp_law_turned K) := by
  refine T.F_law_turned.ok sc_law_turned (fun vs H Q E h => ?_) (fun cdv A outer s H vs Q E hr h => ?_)
  · obtain ⟨d, n, D, L, a, as, ss, m, c, i, s, rfl, _⟩ := h
    rfl
  · obtain ⟨d, n, D, L, a, as, ss, m, c, i, s, rfl, hM, hS, ok, hD, q⟩ := h
    have hel := stp_el ok
    have h36 := stpEs_len (s := s)
    have hdn : H d ≠ none := hD.ne
    have fin : ∀ (H9 : Hp) (r : Addr) (ys : List V) (es : List PyData), Dr H9 d n → Keep d H H9 → H9 r = some (.tup ys) → (∀ p, H p ≠ none → DAts p H9 ys es) → (∀ x, x ∈ es → El 5 x) → Q (.ref r) H9 := fun H9 r ys es hD9 k9 e9 hs he => q _ _ ⟨.tuple es, fun p hp => .tup e9 (hs p hp), St.tup he⟩ hD9 k9
    refine ⟨_, (pss_cons (ps_set (i := 3) sc_law_turned.nd rfl (.inl rfl) (pe_op op_mod (pe_call (ok_law_draw T) (hr.mono (by decide)) (by rfl) T.g_law_draw T.F_law_draw.kp T.b_law_draw .nil pass0 (pa_cons (pv 0) pa_nil)) (pe_callB (id := "len") (r := rLen K) cr_len (by rfl) T.m_len PySem.boot_len (pa_cons (pv 2) pa_nil))))
      (pss_cons (ps_set (i := 4) sc_law_turned.nd rfl (.inl rfl) (pe_op op_mod (pe_call (ok_law_draw T) (hr.mono (by decide)) (by rfl) T.g_law_draw T.F_law_draw.kp T.b_law_draw .nil pass0 (pa_cons (pv 0) pa_nil)) pe_int))
      (pss_cons (ps_if (pt_cmpR op_eq (pv 4) pe_int (nomark _))
      (pss_one (ps_ret (pe_ix (r := rIxL K) ix_list (pe_lst (pa_cons (pe_tup pa_nil) (pa_cons pe_non (pa_cons pe_int (pa_cons pe_str (pa_cons (pe_lst pa_nil) (pa_cons (pe_tup (pa_cons pe_int pa_nil)) pa_nil))))))) (pe_op op_mod (pe_call (ok_law_draw T) (hr.mono (by decide)) (by rfl) T.g_law_draw T.F_law_draw.kp T.b_law_draw .nil pass0 (pa_cons (pv 0) pa_nil)) pe_int) (fun _ _ => rfl))))
      pss_nil)
      (Evl.pss_cut (ps_if (PW.pt (pw_and (pt_cmpR op_eq (pv 4) pe_int (nomark _)) (pw_and (pt_cmpR op_eq (pe_ix (r := rIxT K) ix_tup (pv 2) pe_int (fun _ _ => rfl)) pe_str (nomark _)) (pw_and1 (pt_cmpR op_gt (pe_callB (id := "len") (r := rLen K) cr_len (by rfl) T.m_len PySem.boot_len (pa_cons (pe_ix (r := rIxT K) ix_tup (pv 2) pe_int (fun _ _ => rfl)) pa_nil)) pe_int (nomark _))))))
      (pss_cons (ps_set (i := 5) sc_law_turned.nd rfl (.inl rfl) (pe_op op_mod (pe_call (ok_law_draw T) (hr.mono (by decide)) (by rfl) T.g_law_draw T.F_law_draw.kp T.b_law_draw .nil pass0 (pa_cons (pv 0) pa_nil)) (pe_callB (id := "len") (r := rLen K) cr_len (by rfl) T.m_len PySem.boot_len (pa_cons (pe_ix (r := rIxT K) ix_tup (pv 2) pe_int (fun _ _ => rfl)) pa_nil))))
      (pss_cons (ps_set (i := 6) sc_law_turned.nd rfl (.inl rfl) (pe_ix (r := rIxT K) ix_tup (pe_ix (r := rIxT K) ix_tup (pv 2) pe_int (fun _ _ => rfl)) (pv 5) (fun _ _ => rfl)))
      (pss_cons (ps_set (i := 6) sc_law_turned.nd rfl (.inl rfl) (pe_ix (r := rIxL K) ix_list (pe_lst (pa_cons (pe_callTy (T := "list") (r := rListOf K) cr_list_of (by rfl) T.m_list (by decide +kernel) (pa_cons (pv 6) pa_nil)) (pa_cons (pe_op (r := rCatA K) op_catA (pv 6) (pe_tup (pa_cons pe_int pa_nil))) (pa_cons (pe_slice (r := rSlA K) sl_tupA (pv 6) po_none (po_some pe_int)) (pa_cons (pe_tup (pa_cons (pe_ix (r := rIxT K) ix_tup (pv 6) pe_int (fun _ _ => rfl)) (pa_cons (pe_ix (r := rIxT K) ix_tup (pv 6) pe_int (fun _ _ => rfl)) pa_nil))) pa_nil))))) (pe_op op_mod (pe_call (ok_law_draw T) (hr.mono (by decide)) (by rfl) T.g_law_draw T.F_law_draw.kp T.b_law_draw .nil pass0 (pa_cons (pv 0) pa_nil)) pe_int) (fun _ _ => rfl)))
      (pss_one (ps_ret (pe_op (r := rCatA K) op_catA (pe_slice (r := rSlA K) sl_tupA (pv 2) po_none (po_some pe_int)) (pe_tup (pa_cons (pe_op (r := rCatA K) op_catA (pe_op (r := rCatA K) op_catA (pe_slice (r := rSlA K) sl_tupA (pe_ix (r := rIxT K) ix_tup (pv 2) pe_int (fun _ _ => rfl)) po_none (po_some (pv 5))) (pe_tup (pa_cons (pv 6) pa_nil))) (pe_slice (r := rSlA K) sl_tupA (pe_ix (r := rIxT K) ix_tup (pv 2) pe_int (fun _ _ => rfl)) (po_some (pe_op op_add (pv 5) pe_int)) po_none)) pa_nil))))))))
      pss_nil)
      (pss_cons (ps_if (pt_cmpR op_eq (pv 4) pe_int (nomark _))
      (pss_one (ps_ret (pe_callTy (T := "list") (r := rListOf K) cr_list_of (by rfl) T.m_list (by decide +kernel) (pa_cons (pv 2) pa_nil))))
      pss_nil)
      (pss_cons (ps_if (pt_cmpR op_eq (pv 4) pe_int (nomark _))
      (pss_one (ps_ret (pe_op (r := rCatA K) op_catA (pe_slice (r := rSlA K) sl_tupA (pv 2) po_none (po_some (pv 3))) (pe_slice (r := rSlA K) sl_tupA (pv 2) (po_some (pe_op op_add (pv 3) pe_int)) po_none))))
      pss_nil)
      (pss_cons (ps_if (pt_cmpR op_eq (pv 4) pe_int (nomark _))
      (pss_one (ps_ret (pe_op (r := rCatA K) op_catA (pe_op (r := rCatA K) op_catA (pe_slice (r := rSlA K) sl_tupA (pv 2) po_none (po_some (pv 3))) (pe_tup (pa_cons (pe_call (ok_law_odd T) (hr.mono (by decide)) (by rfl) T.g_law_odd T.F_law_odd.kp T.b_law_odd .nil pass0 (pa_cons (pv 0) (pa_cons (pv 1) pa_nil))) pa_nil))) (pe_slice (r := rSlA K) sl_tupA (pv 2) (po_some (pv 3)) po_none))))
      pss_nil)
      (pss_cons (ps_if (pt_cmpR op_eq (pv 4) pe_int (nomark _))
      (pss_cons (ps_set (i := 7) sc_law_turned.nd rfl (.inl rfl) (pe_lst (pa_cons pe_str (pa_cons pe_str (pa_cons pe_str (pa_cons pe_str (pa_cons pe_str (pa_cons pe_str pa_nil))))))))
      (pss_one (ps_ret (pe_op (r := rCatA K) op_catA (pe_tup (pa_cons (pe_ix (r := rIxL K) ix_list (pv 7) (pe_op op_mod (pe_call (ok_law_draw T) (hr.mono (by decide)) (by rfl) T.g_law_draw T.F_law_draw.kp T.b_law_draw .nil pass0 (pa_cons (pv 0) pa_nil)) pe_int) (fun _ _ => rfl)) pa_nil)) (pe_slice (r := rSlA K) sl_tupA (pv 2) (po_some pe_int) po_none)))))
      pss_nil)
      (Evl.pss_cut (ps_if (PW.pt (pw_and (pt_cmpR op_eq (pv 4) pe_int (nomark _)) (pw_and1 (pt_cmpR op_eq (pe_ix (r := rIxT K) ix_tup (pv 2) pe_int (fun _ _ => rfl)) pe_str (nomark _)))))
      (pss_cons (ps_set (i := 6) sc_law_turned.nd rfl (.inl rfl) (pe_tup (pa_cons (pe_ix (r := rIxL K) ix_list (pe_lst (pa_cons pe_str (pa_cons pe_str (pa_cons pe_str pa_nil)))) (pe_op op_mod (pe_call (ok_law_draw T) (hr.mono (by decide)) (by rfl) T.g_law_draw T.F_law_draw.kp T.b_law_draw .nil pass0 (pa_cons (pv 0) pa_nil)) pe_int) (fun _ _ => rfl)) (pa_cons (pe_call (ok_law_odd T) (hr.mono (by decide)) (by rfl) T.g_law_odd T.F_law_odd.kp T.b_law_odd .nil pass0 (pa_cons (pv 0) (pa_cons (pv 1) pa_nil))) pa_nil))))
      (pss_one (ps_ret (pe_op (r := rCatA K) op_catA (pe_slice (r := rSlA K) sl_tupA (pv 2) po_none (po_some pe_int)) (pe_tup (pa_cons (pe_op (r := rCatA K) op_catA (pe_ix (r := rIxT K) ix_tup (pv 2) pe_int (fun _ _ => rfl)) (pe_tup (pa_cons (pv 6) pa_nil))) pa_nil))))))
      pss_nil)
      (Evl.pss_cut (ps_if (PW.pt (pw_and (pt_cmpR op_eq (pv 4) pe_int (nomark _)) (pw_and1 (pt_cmpR op_eq (pe_ix (r := rIxT K) ix_tup (pv 2) pe_int (fun _ _ => rfl)) pe_str (nomark _)))))
      (pss_one (ps_ret (pe_op (r := rCatA K) op_catA (pe_op (r := rCatA K) op_catA (pe_slice (r := rSlA K) sl_tupA (pv 2) po_none (po_some pe_int)) (pe_tup (pa_cons (pe_call (ok_law_turned_table T) hr (by rfl) T.g_law_turned_table T.F_law_turned_table.kp T.b_law_turned_table .nil pass0 (pa_cons (pv 0) (pa_cons (pv 1) (pa_cons (pe_ix (r := rIxT K) ix_tup (pv 2) pe_int (fun _ _ => rfl)) pa_nil)))) pa_nil))) (pe_slice (r := rSlA K) sl_tupA (pv 2) (po_some pe_int) po_none))))
      pss_nil)
      (pss_one (ps_ret (pe_op (r := rCatA K) op_catA (pe_op (r := rCatA K) op_catA (pe_slice (r := rSlA K) sl_tupA (pv 2) po_none (po_some (pv 3))) (pe_tup (pa_cons (pe_call (ok_law_odd T) (hr.mono (by decide)) (by rfl) T.g_law_odd T.F_law_odd.kp T.b_law_odd .nil pass0 (pa_cons (pv 0) (pa_cons (pv 1) pa_nil))) pa_nil))) (pe_slice (r := rSlA K) sl_tupA (pv 2) (po_some (pe_op op_add (pv 3) pe_int)) po_none)))))))))))))), ?_⟩
    walk_at "start"
    walk_at "x"
    refine ⟨d, n, rfl, hD, ?_⟩
    rintro _ H1 ⟨y, rfl, y0, y1⟩ hD1 k1
    obtain ⟨xs, hx1, hxd1⟩ := (hS.tups (keep_tups k1 hD)).dat (d := d)
    have hlen := hxd1.len
    clear hxd1
    walk_at "x"
    refine x_lenT (st_of hx1) ?_
    walk_at "x"
    obtain ⟨pl, ep, hp⟩ := cast_lt (x := y % (xs.length : Int)) (c := xs.length) (Int.emod_nonneg y (by omega)) (Int.emod_lt_of_pos y (by omega))
    rw [ep]
    refine ⟨d, n, rfl, hD1, ?_⟩
    rintro _ H2 ⟨z, rfl, z0, z1⟩ hD2 k2
    have hx2 := keep_tupsG k2 hD1 _ _ hx1
    have k2 := k1.trans k2
    have hM2 := hM.keep hD k2
    have hS2 := hS.tups (keep_tups k2 hD)
    have hd2 : ∀ p, DAts p H2 xs (stpEs s) := fun p => hS2.dats hx2
    clear hx1 hD1 k1
    walk_at "x"
    refine x_ite (fun h8 => ?_) (fun h8 => ?_)
    · walk_at "x"
      refine ⟨by show 0 ≤ sizeLine; decide, fun t1 ht1 => ?_⟩
      have st1 := same_upd (o := .tup []) ht1
      have et1 : (upd H2 t1 (.tup [])) t1 = some (.tup []) := upd_same
      generalize upd H2 t1 (.tup []) = HA at st1 et1
      walk_at "x"
      refine ⟨by show 0 ≤ sizeLine; decide, fun t2 ht2 => ?_⟩
      have st2 := same_upd (o := .lst []) ht2
      have et2 : (upd HA t2 (.lst [])) t2 = some (.lst []) := upd_same
      generalize upd HA t2 (.lst []) = HB at st2 et2
      walk_at "x"
      refine ⟨by show 1 ≤ sizeLine; decide, fun t3 ht3 => ?_⟩
      have st3 := same_upd (o := .tup [.int 5]) ht3
      have et3 : (upd HB t3 (.tup [.int 5])) t3 = some (.tup [.int 5]) := upd_same
      generalize upd HB t3 (.tup [.int 5]) = HC at st3 et3
      walk_at "x"
      refine ⟨by show 6 ≤ sizeLine; decide, fun u hu => ?_⟩
      have su := same_upd (o := .lst [.ref t1, .non, .int 7, .str "add", .ref t2, .ref t3]) hu
      have eu : (upd HC u (.lst [.ref t1, .non, .int 7, .str "add", .ref t2, .ref t3])) u = some (.lst [.ref t1, .non, .int 7, .str "add", .ref t2, .ref t3]) := upd_same
      generalize upd HC u (.lst [.ref t1, .non, .int 7, .str "add", .ref t2, .ref t3]) = HD at su eu
      have s4 := ((st1.trans st2).trans st3).trans su
      have hud := (hD2.same ((st1.trans st2).trans st3)).new hu
      have hDD := hD2.same s4
      have f1 := ((st2.trans st3).trans su) _ _ et1
      have f2 := (st3.trans su) _ _ et2
      have f3 := su _ _ et3
      have n2 : ∀ p, H p ≠ none → t2 ≠ p := fun p hp e => keep_some k2 hD2 p hp (by rw [← e]; exact st1.free ht2)
      walk_at "x"
      refine ⟨d, n, rfl, hDD, ?_⟩
      rintro _ HE ⟨x, rfl, x0, x1⟩ hDE kE
      walk_at "x"
      obtain ⟨g, hv, hm⟩ := at_lt (xs := [.ref t1, .non, .int 7, .str "add", .ref t2, .ref t3]) (i := x % 6) (Int.emod_nonneg _ (by decide)) (Int.emod_lt_of_pos x (show (0 : Int) < 6 by decide))
      refine x_ixL (sq_of (kE _ _ eu hud)) hv ?_
      refine q _ _ ?_ hDE (k2.trans ((Same.keep s4).trans kE))
      simp only [List.mem_cons, List.not_mem_nil, or_false] at hm
      rcases hm with rfl | rfl | rfl | rfl | rfl | rfl
      · exact ⟨.tuple [], fun p hp => .tup (keep_tupsG kE hDD _ _ f1) .nil, St.tup al_nil⟩
      · exact ⟨_, fun p hp => .non, St.of (n := 0) .non (by decide) fun _ z => nomatch z⟩
      · exact ⟨_, fun p hp => .int _, St.of (n := 0) .int (by decide) fun _ z => nomatch z⟩
      · exact ⟨_, fun p hp => .str _, St.of (n := 0) (.str (by decide +kernel)) (by decide) fun _ z => nomatch z⟩
      · exact ⟨.list [], fun p hp => .lst (n2 p hp) (kE _ _ f2 (n2 d hdn)) .nil, St.lst al_nil⟩
      · exact ⟨.tuple [.int 5], fun p hp => .tup (keep_tupsG kE hDD _ _ f3) (.cons (.int _) .nil), St.tup (al_cons .int al_nil)⟩
    walk_at "x"
    refine x_cut (fun σ' H' => [some (V.ref d), some (.ref D), some (.ref a), some (.int (pl : Int)), some (.int (z % 10)), none, none, none] = σ' ∧ H2 = H') ?_ ?_
    · walk_at "x"
      refine x_ite (fun h9 => ?_) (fun h9 => ?_)
      · walk_at "x"
        cases s with
        | scale t u =>
          have g1 : H2 a = some (.tup [.str "scale", .int (t : Int), .int u]) := hS2
          refine x_ixT (st_of g1) (show _ = some (V.str "scale") from rfl) ?_
          walk_at "x"
          refine x_Eq rfl ?_
          rw [decide_eq_false (by decide)]
          walk_at "x"
          walk_at "f"
          exact ⟨rfl, rfl⟩
        | swap t u =>
          have g1 : H2 a = some (.tup [.str "swap", .int (t : Int), .int (u : Int)]) := hS2
          refine x_ixT (st_of g1) (show _ = some (V.str "swap") from rfl) ?_
          walk_at "x"
          refine x_Eq rfl ?_
          rw [decide_eq_false (by decide)]
          walk_at "x"
          walk_at "f"
          exact ⟨rfl, rfl⟩
        | tab t sg tb i1 j1 =>
          obtain ⟨ca, g1, _⟩ := hS2
          refine x_ixT (st_of g1) (show _ = some (V.str "table") from rfl) ?_
          walk_at "x"
          refine x_Eq rfl ?_
          rw [decide_eq_false (by decide)]
          walk_at "x"
          walk_at "f"
          exact ⟨rfl, rfl⟩
        | add t k fs =>
          obtain ⟨f, ats, g1, g2, g3, g4⟩ := hS2
          have hfs3 : fs.length ≤ 3 := ok.2.2.2.1
          refine x_ixT (st_of g1) (show _ = some (V.str "add") from rfl) ?_
          walk_at "x"
          refine x_Eq rfl ?_
          rw [decide_eq_true rfl]
          walk_at "x"
          walk_at "t"
          refine x_ixT (st_of g1) (show _ = some (V.ref f) from rfl) ?_
          walk_at "x"
          refine x_lenT (st_of g2) ?_
          have hml : (ats.map V.ref).length = fs.length := by rw [List.length_map, g3]
          rw [hml]
          walk_at "x"
          refine x_ite (fun hc => ?_) (fun hc => ?_)
          · walk_at "x"
            refine ⟨d, n, rfl, hD2, ?_⟩
            rintro _ H3 ⟨w, rfl, w0, w1⟩ hD3 k3
            have g1 := keep_tupsG k3 hD2 _ _ g1
            have g2 := keep_tupsG k3 hD2 _ _ g2
            have g4 : ∀ (i : Nat) x b, fs[i]? = some x → ats[i]? = some b → FacAt H3 b x := fun i x b e1 e2 => (g4 i x b e1 e2).tups (keep_tups k3 hD2)
            have k3 := k2.trans k3
            walk_at "x"
            refine x_ixT (st_of g1) (show _ = some (V.ref f) from rfl) ?_
            walk_at "x"
            refine x_lenT (st_of g2) ?_
            rw [hml]
            walk_at "x"
            obtain ⟨pc, epc, hpc⟩ := cast_lt (x := w % (fs.length : Int)) (c := fs.length) (Int.emod_nonneg w (by omega)) (Int.emod_lt_of_pos w (by omega))
            rw [epc]
            refine x_ixT (st_of g1) (show _ = some (V.ref f) from rfl) ?_
            walk_at "x"
            obtain ⟨fc, hfc⟩ : ∃ fc, fs[pc]? = some fc := ⟨_, List.getElem?_eq_getElem hpc⟩
            obtain ⟨b, hb⟩ : ∃ b, ats[pc]? = some b := ⟨_, List.getElem?_eq_getElem (by omega)⟩
            refine x_ixT (v := .ref b) (st_of g2) (atI_nat (by rw [List.getElem?_map, hb]; rfl)) ?_
            walk_at "x"
            obtain ⟨wd, j, hwd, hB⟩ := (g4 pc fc b hfc hb).pair
            refine x_listT (st_of hB) fun l1 hl1 => ?_
            have sl1 := same_upd (o := .lst [.str wd, .int j]) hl1
            have el1 : (upd H3 l1 (.lst [.str wd, .int j])) l1 = some (.lst [.str wd, .int j]) := upd_same
            generalize upd H3 l1 (.lst [.str wd, .int j]) = HA at sl1 el1
            walk_at "x"
            refine ⟨by show 1 ≤ sizeLine; decide, fun q1 hq1 => ?_⟩
            have sq1 := same_upd (o := .tup [.int 0]) hq1
            have eq1 : (upd HA q1 (.tup [.int 0])) q1 = some (.tup [.int 0]) := upd_same
            generalize upd HA q1 (.tup [.int 0]) = HB at sq1 eq1
            refine x_catA ((sl1.trans sq1) _ _ hB) eq1 (by show 2 + 1 ≤ 1000000; decide) fun r2 HC s2 e2 => ?_
            walk_at "x"
            refine x_sl2 ?_
            walk_at "x"
            refine x_part0 (x_part1 ?_)
            walk_at "x"
            have s3C := (sl1.trans sq1).trans s2
            refine ⟨_, rfl, x_slA (s3C _ _ hB) fun r3 HD s3 e3 => ?_⟩
            rw [show (1 : Int) = ((1 : Nat) : Int) from rfl, cutV_to (by show 1 ≤ 2; decide)] at e3
            have s3D := s3C.trans s3
            walk_at "x"
            refine x_ixT (st_of (s3D _ _ hB)) (show _ = some (V.int j) from rfl) ?_
            walk_at "x"
            refine x_ixT (st_of (s3D _ _ hB)) (show _ = some (V.str wd) from rfl) ?_
            walk_at "x"
            refine ⟨by show 2 ≤ sizeLine; decide, fun r4 hr4 => ?_⟩
            have sr4 := same_upd (o := .tup [.int j, .str wd]) hr4
            have er4 : (upd HD r4 (.tup [.int j, .str wd])) r4 = some (.tup [.int j, .str wd]) := upd_same
            generalize upd HD r4 (.tup [.int j, .str wd]) = HE at sr4 er4
            walk_at "x"
            refine ⟨by show 4 ≤ sizeLine; decide, fun u hu => ?_⟩
            have su := same_upd (o := .lst [.ref l1, .ref r2, .ref r3, .ref r4]) hu
            have eu : (upd HE u (.lst [.ref l1, .ref r2, .ref r3, .ref r4])) u = some (.lst [.ref l1, .ref r2, .ref r3, .ref r4]) := upd_same
            generalize upd HE u (.lst [.ref l1, .ref r2, .ref r3, .ref r4]) = HF at su eu
            have s3F := (s3D.trans sr4).trans su
            have hud := (hD3.same (s3D.trans sr4)).new hu
            have hDF := hD3.same s3F
            have f1 := ((((sq1.trans s2).trans s3).trans sr4).trans su) _ _ el1
            have f2 := ((s3.trans sr4).trans su) _ _ e2
            have f3 := (sr4.trans su) _ _ e3
            have f4 := su _ _ er4
            have n1 : ∀ p, H p ≠ none → l1 ≠ p := fun p hp e => keep_some k3 hD3 p hp (by rw [← e]; exact hl1)
            walk_at "x"
            refine ⟨d, n, rfl, hDF, ?_⟩
            rintro _ HG ⟨x, rfl, x0, x1⟩ hDG kG
            walk_at "x"
            obtain ⟨g, hv, hm⟩ := at_lt (xs := [.ref l1, .ref r2, .ref r3, .ref r4]) (i := x % 4) (Int.emod_nonneg _ (by decide)) (Int.emod_lt_of_pos x (show (0 : Int) < 4 by decide))
            refine x_ixL (sq_of (kG _ _ eu hud)) hv ?_
            have tG := keep_tupsG kG hDF
            have gw : ∃ e, (∀ p, H p ≠ none → DAt p HG g e) ∧ ShN 3 e := by
              have h2 : PyData.strOk wd = true := hwd
              simp only [List.mem_cons, List.not_mem_nil, or_false] at hm
              rcases hm with rfl | rfl | rfl | rfl
              · exact ⟨.list [.str wd, .int j], fun p hp => .lst (n1 p hp) (kG _ _ f1 (n1 d hdn)) (.cons (.str _) (.cons (.int _) .nil)), .lst (al_cons (.str h2) (al_cons .int al_nil))⟩
              · exact ⟨.tuple [.str wd, .int j, .int 0], fun p hp => .tup (tG _ _ f2) (.cons (.str _) (.cons (.int _) (.cons (.int _) .nil))), .tup (al_cons (.str h2) (al_cons .int (al_cons .int al_nil)))⟩
              · exact ⟨.tuple [.str wd], fun p hp => .tup (tG _ _ f3) (.cons (.str _) .nil), .tup (al_cons (.str h2) al_nil)⟩
              · exact ⟨.tuple [.int j, .str wd], fun p hp => .tup (tG _ _ f4) (.cons (.int _) (.cons (.str _) .nil)), .tup (al_cons .int (al_cons (.str h2) al_nil))⟩
            obtain ⟨eg, hg, hgs⟩ := gw
            have k3G := (Same.keep s3F).trans kG
            have tp := keep_tups k3G hD3
            have g1 := tp _ _ g1
            have g2 := tp _ _ g2
            have g4 : ∀ (i : Nat) x b, fs[i]? = some x → ats[i]? = some b → FacAt HG b x := fun i x b e1 e2 => (g4 i x b e1 e2).tups tp
            have k0G := k3.trans k3G
            clear f1 f2 f3 f4 el1 eq1 e2 e3 er4 eu hm hv
            walk_at "x"
            refine x_sl2 ?_
            walk_at "x"
            refine x_part0 (x_part1 ?_)
            walk_at "x"
            refine ⟨_, rfl, x_slA g1 fun r5 HH s5 e5 => ?_⟩
            rw [show (3 : Int) = ((3 : Nat) : Int) from rfl, cutV_to (by show 3 ≤ 4; decide)] at e5
            refine x_sl2 ?_
            walk_at "x"
            refine x_ixT (st_of (s5 _ _ g1)) (show _ = some (V.ref f) from rfl) ?_
            refine x_part0 (x_part1 ?_)
            walk_at "x"
            refine ⟨_, rfl, x_slA (s5 _ _ g2) fun r6 HI s6 e6 => ?_⟩
            rw [cutV_to (by omega)] at e6
            walk_at "x"
            refine ⟨by show 1 ≤ sizeLine; decide, fun r7 hr7 => ?_⟩
            have sr7 := same_upd (o := .tup [g]) hr7
            have er7 : (upd HI r7 (.tup [g])) r7 = some (.tup [g]) := upd_same
            generalize upd HI r7 (.tup [g]) = HJ at sr7 er7
            refine x_catA (sr7 _ _ e6) er7 (by rw [List.length_take]; show min pc (ats.map V.ref).length + 1 ≤ 1000000; omega) fun r8 HK s8 e8 => ?_
            have s5K := ((s5.trans s6).trans sr7).trans s8
            refine x_sl2 ?_
            walk_at "x"
            refine x_ixT (st_of (s5K _ _ g1)) (show _ = some (V.ref f) from rfl) ?_
            refine x_part1 ?_
            walk_at "x"
            refine ⟨_, rfl, x_part0 (x_slA (s5K _ _ g2) fun r9 HL s9 e9 => ?_)⟩
            rw [show (pc : Int) + 1 = ((pc + 1 : Nat) : Int) from rfl, cutV_from (by omega)] at e9
            refine x_catA (s9 _ _ e8) e9 (by rw [List.length_append, List.length_take, List.length_drop]; show min pc (ats.map V.ref).length + 1 + _ ≤ 1000000; omega) fun rA HM sA eA => ?_
            walk_at "x"
            refine ⟨by show 1 ≤ sizeLine; decide, fun rB hrB => ?_⟩
            have srB := same_upd (o := .tup [.ref rA]) hrB
            have erB : (upd HM rB (.tup [.ref rA])) rB = some (.tup [.ref rA]) := upd_same
            generalize upd HM rB (.tup [.ref rA]) = HN at srB erB
            have s5N := ((s5K.trans s9).trans sA).trans srB
            refine x_catA (((((s6.trans sr7).trans s8).trans s9).trans sA).trans srB _ _ e5) erB (by show 3 + 1 ≤ 1000000; decide) fun rC HO sC eC => ?_
            have sGO := s5N.trans sC
            refine fin HO rC _ ([.str "add", .int (t : Int), .int k] ++ [.tuple ((fs.map facD).take pc ++ [eg] ++ (fs.map facD).drop (pc + 1))]) (hDG.same sGO) (k0G.trans (Same.keep sGO)) eC (fun p hp => ?_) ?_
            · have hF := facs_dat (d := p) g3 (fun i x b e1 e2 => (g4 i x b e1 e2).tups (Tups.same sGO))
              exact (DAts.cons (.str _) (.cons (.int _) (.cons (.int _) .nil))).app (.cons (.tup ((srB.trans sC) _ _ eA) ((hF.take.app (.cons (DAt.same sGO _ (hg p hp)) .nil)).app hF.drop)) .nil)
            · refine al_app (al_cons (.str (by decide +kernel)) (al_cons .int (al_cons .int al_nil))) (al_cons ((El.tup (n := 3) (al_app (al_app (al_take fun x hx => (facs_sh x hx).mono (by decide)) (al_cons hgs al_nil)) (al_drop fun x hx => (facs_sh x hx).mono (by decide))) ?_).mono (by decide)) al_nil)
              rw [List.length_append, List.length_append, List.length_take, List.length_drop, List.length_map]
              show min pc fs.length + 1 + _ ≤ 1000
              omega
          · walk_at "x"
            exact ⟨rfl, rfl⟩
      · walk_at "f"
        exact ⟨rfl, rfl⟩
    rintro _ _ ⟨rfl, rfl⟩
    walk_at "x"
    refine x_ite (fun h0 => ?_) (fun h0 => ?_)
    · walk_at "x"
      refine x_listT (st_of hx2) fun l hl => ?_
      have s1 := same_upd (o := .lst xs) hl
      exact q _ _ ⟨.list (stpEs s), fun p hp => .lst (fun e => keep_some k2 hD2 p hp (by rw [← e]; exact hl)) upd_same (DAts.same s1 _ (hd2 p)), St.lst (el_up hel (by decide))⟩ (hD2.same s1) (k2.trans (Same.keep s1))
    walk_at "x"
    refine x_ite (fun h1 => ?_) (fun h1 => ?_)
    · walk_at "x"
      refine x_sl2 ?_
      walk_at "x"
      refine x_part0 (x_part1 ?_)
      walk_at "x"
      refine ⟨_, rfl, x_slA hx2 fun r1 HA sA eA => ?_⟩
      rw [cutV_to (by omega)] at eA
      refine x_sl2 ?_
      walk_at "x"
      refine x_part1 ?_
      walk_at "x"
      refine ⟨_, rfl, x_part0 (x_slA (sA _ _ hx2) fun r2 HB sB eB => ?_)⟩
      rw [show (pl : Int) + 1 = ((pl + 1 : Nat) : Int) from rfl, cutV_from (by omega)] at eB
      refine x_catA (sB _ _ eA) eB (by rw [List.length_take, List.length_drop]; omega) fun r3 HC sC eC => ?_
      have sC := (sA.trans sB).trans sC
      exact fin HC r3 _ ((stpEs s).take pl ++ (stpEs s).drop (pl + 1)) (hD2.same sC) (k2.trans (Same.keep sC)) eC (fun p hp => ((DAts.same sC _ (hd2 p)).take).app (DAts.same sC _ (hd2 p)).drop) (el_up (al_app (al_take hel) (al_drop hel)) (by decide))
    walk_at "x"
    refine x_ite (fun h2 => ?_) (fun h2 => ?_)
    · walk_at "x"
      refine x_sl2 ?_
      walk_at "x"
      refine x_part0 (x_part1 ?_)
      walk_at "x"
      refine ⟨_, rfl, x_slA hx2 fun r1 HA sA eA => ?_⟩
      rw [cutV_to (by omega)] at eA
      walk_at "x"
      refine ⟨d, n, D, L, as, ss, m, c, i, rfl, hM2.same sA, hD2.same sA, ?_⟩
      rintro ov HB ⟨oe, hov, hoe⟩ hDB kB
      have hov : ∀ p, H p ≠ none → DAt p HB ov oe := fun p hp => hov p (sn sA (keep_some k2 hD2 p hp))
      have eA := keep_tupsG kB (hD2.same sA) _ _ eA
      have kB := (Same.keep sA).trans kB
      have hxB := keep_tupsG kB hD2 _ _ hx2
      have hSB := hS2.tups (keep_tups kB hD2)
      walk_at "x"
      refine ⟨by show 1 ≤ sizeLine; decide, fun r2 hr2 => ?_⟩
      have sr2 := same_upd (o := .tup [ov]) hr2
      have er2 : (upd HB r2 (.tup [ov])) r2 = some (.tup [ov]) := upd_same
      generalize upd HB r2 (.tup [ov]) = HC at sr2 er2
      refine x_catA (sr2 _ _ eA) er2 (by rw [List.length_take]; show min pl xs.length + 1 ≤ 1000000; omega) fun r3 HD sD eD => ?_
      have sBD := sr2.trans sD
      refine x_sl2 ?_
      walk_at "x"
      refine x_part1 ?_
      walk_at "x"
      refine ⟨_, rfl, x_part0 (x_slA (sBD _ _ hxB) fun r4 HE sE eE => ?_)⟩
      rw [cutV_from (by omega)] at eE
      refine x_catA (sE _ _ eD) eE (by rw [List.length_append, List.length_take, List.length_drop]; show min pl xs.length + 1 + _ ≤ 1000000; omega) fun r5 HF sF eF => ?_
      have sF := (sBD.trans sE).trans sF
      exact fin HF r5 _ ((stpEs s).take pl ++ [oe] ++ (stpEs s).drop pl) (hDB.same sF) ((k2.trans kB).trans (Same.keep sF)) eF (fun p hp => ((DAts.same sF _ (hSB.dats hxB)).take.app (.cons (DAt.same sF _ (hov p hp)) .nil)).app (DAts.same sF _ (hSB.dats hxB)).drop) (el_up (al_app (al_app (al_take hel) (al_cons hoe al_nil)) (al_drop hel)) (by decide))
    walk_at "x"
    refine x_ite (fun h3 => ?_) (fun h3 => ?_)
    · walk_at "x"
      refine ⟨by show 6 ≤ sizeLine; decide, fun u hu => ?_⟩
      have su := same_upd (o := .lst [.str "add", .str "scale", .str "swap", .str "table", .str "Add", .str "sub"]) hu
      have eu : (upd H2 u (.lst [.str "add", .str "scale", .str "swap", .str "table", .str "Add", .str "sub"])) u = some (.lst [.str "add", .str "scale", .str "swap", .str "table", .str "Add", .str "sub"]) := upd_same
      generalize upd H2 u (.lst [.str "add", .str "scale", .str "swap", .str "table", .str "Add", .str "sub"]) = H6 at su eu
      have hud := hD2.new hu
      have hD6 := hD2.same su
      have hx6 := su _ _ hx2
      walk_at "x"
      refine ⟨d, n, rfl, hD6, ?_⟩
      rintro _ H7 ⟨x, rfl, x0, x1⟩ hD7 k7
      have hx7 := keep_tupsG k7 hD6 _ _ hx6
      walk_at "x"
      obtain ⟨g, hv, hm⟩ := at_lt (xs := [.str "add", .str "scale", .str "swap", .str "table", .str "Add", .str "sub"]) (i := x % 6) (Int.emod_nonneg _ (by decide)) (Int.emod_lt_of_pos x (show (0 : Int) < 6 by decide))
      refine x_ixL (sq_of (k7 _ _ eu hud)) hv ?_
      have k27 := (Same.keep su).trans k7
      have hS7 := hS2.tups (keep_tups k27 hD2)
      obtain ⟨ws, hws, rfl⟩ : ∃ ws : Str, PyData.strOk ws = true ∧ g = .str ws := by
        simp only [List.mem_cons, List.not_mem_nil, or_false] at hm
        rcases hm with rfl | rfl | rfl | rfl | rfl | rfl <;> exact ⟨_, by decide +kernel, rfl⟩
      walk_at "x"
      refine ⟨by show 1 ≤ sizeLine; decide, fun r1 hr1 => ?_⟩
      have sr1 := same_upd (o := .tup [.str ws]) hr1
      have er1 : (upd H7 r1 (.tup [.str ws])) r1 = some (.tup [.str ws]) := upd_same
      generalize upd H7 r1 (.tup [.str ws]) = H8 at sr1 er1
      refine x_sl2 ?_
      walk_at "x"
      refine x_part1 ?_
      walk_at "x"
      refine ⟨_, rfl, x_part0 (x_slA (sr1 _ _ hx7) fun r2 HB sB eB => ?_)⟩
      rw [show (1 : Int) = ((1 : Nat) : Int) from rfl, cutV_from (by omega)] at eB
      refine x_catA (sB _ _ er1) eB (by rw [List.length_drop]; show 1 + _ ≤ 1000000; omega) fun r3 HC sC eC => ?_
      have sC := (sr1.trans sB).trans sC
      exact fin HC r3 _ ([.str ws] ++ (stpEs s).drop 1) (hD7.same sC) ((k2.trans k27).trans (Same.keep sC)) eC (fun p hp => (DAts.cons (.str _) .nil).app (DAts.same sC _ (hS7.dats hx7)).drop) (el_up (al_app (al_cons (.str hws) al_nil) (al_drop hel)) (by decide))
    walk_at "x"
    refine x_cut (fun σ' H' => [some (V.ref d), some (.ref D), some (.ref a), some (.int (pl : Int)), some (.int (z % 10)), none, none, none] = σ' ∧ H2 = H') ?_ ?_
    · walk_at "x"
      refine x_ite (fun h4 => ?_) (fun h4 => ?_)
      · walk_at "x"
        cases s with
        | scale t u =>
          have g1 : H2 a = some (.tup [.str "scale", .int (t : Int), .int u]) := hS2
          refine x_ixT (st_of g1) (show _ = some (V.str "scale") from rfl) ?_
          walk_at "x"
          refine x_Eq rfl ?_
          rw [decide_eq_false (by decide)]
          walk_at "x"
          walk_at "f"
          exact ⟨rfl, rfl⟩
        | swap t u =>
          have g1 : H2 a = some (.tup [.str "swap", .int (t : Int), .int (u : Int)]) := hS2
          refine x_ixT (st_of g1) (show _ = some (V.str "swap") from rfl) ?_
          walk_at "x"
          refine x_Eq rfl ?_
          rw [decide_eq_false (by decide)]
          walk_at "x"
          walk_at "f"
          exact ⟨rfl, rfl⟩
        | tab t sg tb i1 j1 =>
          obtain ⟨ca, g1, _⟩ := hS2
          refine x_ixT (st_of g1) (show _ = some (V.str "table") from rfl) ?_
          walk_at "x"
          refine x_Eq rfl ?_
          rw [decide_eq_false (by decide)]
          walk_at "x"
          walk_at "f"
          exact ⟨rfl, rfl⟩
        | add t k fs =>
          obtain ⟨f, ats, g1, g2, g3, g4⟩ := hS2
          have hfs3 : fs.length ≤ 3 := ok.2.2.2.1
          refine x_ixT (st_of g1) (show _ = some (V.str "add") from rfl) ?_
          walk_at "x"
          refine x_Eq rfl ?_
          rw [decide_eq_true rfl]
          walk_at "x"
          walk_at "t"
          refine ⟨by show 3 ≤ sizeLine; decide, fun u hu => ?_⟩
          have su := same_upd (o := .lst [.str "cell", .str "input", .str "bit"]) hu
          have eu : (upd H2 u (.lst [.str "cell", .str "input", .str "bit"])) u = some (.lst [.str "cell", .str "input", .str "bit"]) := upd_same
          generalize upd H2 u (.lst [.str "cell", .str "input", .str "bit"]) = H6 at su eu
          have hud := hD2.new hu
          have hD6 := hD2.same su
          walk_at "x"
          refine ⟨d, n, rfl, hD6, ?_⟩
          rintro _ H7 ⟨x, rfl, x0, x1⟩ hD7 k7
          have k27 := (Same.keep su).trans k7
          walk_at "x"
          obtain ⟨g, hv, hm⟩ := at_lt (xs := [.str "cell", .str "input", .str "bit"]) (i := x % 3) (Int.emod_nonneg _ (by decide)) (Int.emod_lt_of_pos x (show (0 : Int) < 3 by decide))
          refine x_ixL (sq_of (k7 _ _ eu hud)) hv ?_
          obtain ⟨ws, hws, rfl⟩ : ∃ ws : Str, PyData.strOk ws = true ∧ g = .str ws := by
            simp only [List.mem_cons, List.not_mem_nil, or_false] at hm
            rcases hm with rfl | rfl | rfl <;> exact ⟨_, by decide +kernel, rfl⟩
          walk_at "x"
          refine ⟨d, n, D, L, as, ss, m, c, i, rfl, hM2.keep hD2 k27, hD7, ?_⟩
          rintro ov H8 ⟨oe, hov, hoe⟩ hD8 k8
          have hov : ∀ p, H p ≠ none → DAt p H8 ov oe := fun p hp => hov p (keep_some (k2.trans k27) hD7 p hp)
          have k28 := k27.trans k8
          have tp := keep_tups k28 hD2
          have g1 := tp _ _ g1
          have g2 := tp _ _ g2
          have g4 : ∀ (i : Nat) x b, fs[i]? = some x → ats[i]? = some b → FacAt H8 b x := fun i x b e1 e2 => (g4 i x b e1 e2).tups tp
          have hml : (ats.map V.ref).length = fs.length := by rw [List.length_map, g3]
          walk_at "x"
          refine ⟨by show 2 ≤ sizeLine; decide, fun r1 hr1 => ?_⟩
          have sr1 := same_upd (o := .tup [.str ws, ov]) hr1
          have er1 : (upd H8 r1 (.tup [.str ws, ov])) r1 = some (.tup [.str ws, ov]) := upd_same
          generalize upd H8 r1 (.tup [.str ws, ov]) = H9 at sr1 er1
          walk_at "x"
          refine x_sl2 ?_
          walk_at "x"
          refine x_part0 (x_part1 ?_)
          walk_at "x"
          refine ⟨_, rfl, x_slA (sr1 _ _ g1) fun r5 HH s5 e5 => ?_⟩
          rw [show (3 : Int) = ((3 : Nat) : Int) from rfl, cutV_to (by show 3 ≤ 4; decide)] at e5
          walk_at "x"
          refine x_ixT (st_of ((sr1.trans s5) _ _ g1)) (show _ = some (V.ref f) from rfl) ?_
          walk_at "x"
          refine ⟨by show 1 ≤ sizeLine; decide, fun r6 hr6 => ?_⟩
          have sr6 := same_upd (o := .tup [.ref r1]) hr6
          have er6 : (upd HH r6 (.tup [.ref r1])) r6 = some (.tup [.ref r1]) := upd_same
          generalize upd HH r6 (.tup [.ref r1]) = HI at sr6 er6
          refine x_catA (((sr1.trans s5).trans sr6) _ _ g2) er6 (by rw [hml]; show fs.length + 1 ≤ 1000000; omega) fun r7 HJ s7 e7 => ?_
          walk_at "x"
          refine ⟨by show 1 ≤ sizeLine; decide, fun r8 hr8 => ?_⟩
          have sr8 := same_upd (o := .tup [.ref r7]) hr8
          have er8 : (upd HJ r8 (.tup [.ref r7])) r8 = some (.tup [.ref r7]) := upd_same
          generalize upd HJ r8 (.tup [.ref r7]) = HK at sr8 er8
          refine x_catA (((sr6.trans s7).trans sr8) _ _ e5) er8 (by show 3 + 1 ≤ 1000000; decide) fun r9 HL s9 e9 => ?_
          have s89 := ((((sr1.trans s5).trans sr6).trans s7).trans sr8).trans s9
          refine fin HL r9 _ ([.str "add", .int (t : Int), .int k] ++ [.tuple (fs.map facD ++ [.tuple [.str ws, oe]])]) (hD8.same s89) ((k2.trans k28).trans (Same.keep s89)) e9 (fun p hp => ?_) ?_
          · have hF := facs_dat (d := p) g3 (fun i x b e1 e2 => (g4 i x b e1 e2).tups (Tups.same s89))
            have hr1 := ((((s5.trans sr6).trans s7).trans sr8).trans s9) _ _ er1
            exact (DAts.cons (.str _) (.cons (.int _) (.cons (.int _) .nil))).app (.cons (.tup ((sr8.trans s9) _ _ e7) (hF.app (.cons (.tup hr1 (.cons (.str _) (.cons (DAt.same s89 _ (hov p hp)) .nil))) .nil))) .nil)
          · refine al_app (al_cons (.str (by decide +kernel)) (al_cons .int (al_cons .int al_nil))) (al_cons ((El.tup (n := 3) (al_app (fun x hx => (facs_sh x hx).mono (by decide)) (al_cons (ShN.tup (n := 2) (al_cons (.str hws) (al_cons hoe.1 al_nil))) al_nil)) ?_).mono (by decide)) al_nil)
            rw [List.length_append, List.length_map]
            show fs.length + 1 ≤ 1000
            omega
      · walk_at "f"
        exact ⟨rfl, rfl⟩
    rintro _ _ ⟨rfl, rfl⟩
    walk_at "x"
    refine x_cut (fun σ' H' => [some (V.ref d), some (.ref D), some (.ref a), some (.int (pl : Int)), some (.int (z % 10)), none, none, none] = σ' ∧ H2 = H') ?_ ?_
    · walk_at "x"
      refine x_ite (fun h5 => ?_) (fun h5 => ?_)
      · walk_at "x"
        cases s with
        | scale t u =>
          have g1 : H2 a = some (.tup [.str "scale", .int (t : Int), .int u]) := hS2
          refine x_ixT (st_of g1) (show _ = some (V.str "scale") from rfl) ?_
          walk_at "x"
          refine x_Eq rfl ?_
          rw [decide_eq_false (by decide)]
          walk_at "x"
          walk_at "f"
          exact ⟨rfl, rfl⟩
        | swap t u =>
          have g1 : H2 a = some (.tup [.str "swap", .int (t : Int), .int (u : Int)]) := hS2
          refine x_ixT (st_of g1) (show _ = some (V.str "swap") from rfl) ?_
          walk_at "x"
          refine x_Eq rfl ?_
          rw [decide_eq_false (by decide)]
          walk_at "x"
          walk_at "f"
          exact ⟨rfl, rfl⟩
        | add t k fs =>
          obtain ⟨f, ats, g1, _⟩ := hS2
          refine x_ixT (st_of g1) (show _ = some (V.str "add") from rfl) ?_
          walk_at "x"
          refine x_Eq rfl ?_
          rw [decide_eq_false (by decide)]
          walk_at "x"
          walk_at "f"
          exact ⟨rfl, rfl⟩
        | tab t sg tb i1 j1 =>
          obtain ⟨ca, g1, hT⟩ := hS2
          obtain ⟨_, _, _, _, _, _, _, hI, hl9, _⟩ := ok
          refine x_ixT (st_of g1) (show _ = some (V.str "table") from rfl) ?_
          walk_at "x"
          refine x_Eq rfl ?_
          rw [decide_eq_true rfl]
          walk_at "x"
          walk_at "t"
          refine x_sl2 ?_
          walk_at "x"
          refine x_part0 (x_part1 ?_)
          walk_at "x"
          refine ⟨_, rfl, x_slA g1 fun r5 HH s5 e5 => ?_⟩
          rw [show (3 : Int) = ((3 : Nat) : Int) from rfl, cutV_to (by show 3 ≤ 6; decide)] at e5
          walk_at "x"
          refine x_ixT (st_of (s5 _ _ g1)) (show _ = some (V.ref ca) from rfl) ?_
          walk_at "x"
          refine ⟨d, n, D, L, ca, as, ss, m, c, i, tb, rfl, hM2.same s5, hT.tups (Tups.same s5), hI, hl9, hD2.same s5, ?_⟩
          rintro v H7 ⟨e, hv, hvl⟩ hD7 k7
          have hv : ∀ p, H p ≠ none → DAt p H7 v e := fun p hp => hv p (sn s5 (keep_some k2 hD2 p hp))
          have e5 := keep_tupsG k7 (hD2.same s5) _ _ e5
          have k27 := (Same.keep s5).trans k7
          have g1 := keep_tupsG k27 hD2 _ _ g1
          walk_at "x"
          refine ⟨by show 1 ≤ sizeLine; decide, fun r6 hr6 => ?_⟩
          have sr6 := same_upd (o := .tup [v]) hr6
          have er6 : (upd H7 r6 (.tup [v])) r6 = some (.tup [v]) := upd_same
          generalize upd H7 r6 (.tup [v]) = HI at sr6 er6
          refine x_catA (sr6 _ _ e5) er6 (by show 3 + 1 ≤ 1000000; decide) fun r7 HJ s7 e7 => ?_
          refine x_sl2 ?_
          walk_at "x"
          refine x_part1 ?_
          walk_at "x"
          refine ⟨_, rfl, x_part0 (x_slA ((sr6.trans s7) _ _ g1) fun r8 HK s8 e8 => ?_)⟩
          rw [show (4 : Int) = ((4 : Nat) : Int) from rfl, cutV_from (by show 4 ≤ 6; decide)] at e8
          refine x_catA (s8 _ _ e7) e8 (by show 4 + 2 ≤ 1000000; decide) fun r9 HL s9 e9 => ?_
          have s79 := ((sr6.trans s7).trans s8).trans s9
          exact fin HL r9 _ ([.str "table", .int (t : Int), .int sg] ++ [e] ++ [.int (i1 : Int), .int (j1 : Int)]) (hD7.same s79) ((k2.trans k27).trans (Same.keep s79)) e9 (fun p hp => show DAts p HL ([V.str "table", .int (t : Int), .int sg] ++ [v] ++ [V.int (i1 : Int), .int (j1 : Int)]) _ from ((DAts.cons (.str _) (.cons (.int _) (.cons (.int _) .nil))).app (.cons (DAt.same s79 _ (hv p hp)) .nil)).app (.cons (.int _) (.cons (.int _) .nil))) (al_app (al_app (al_cons (.str (by decide +kernel)) (al_cons .int (al_cons .int al_nil))) (al_cons (hvl.mono (by decide)) al_nil)) (al_cons .int (al_cons .int al_nil)))
      · walk_at "f"
        exact ⟨rfl, rfl⟩
    rintro _ _ ⟨rfl, rfl⟩
    walk_at "x"
    refine x_sl2 ?_
    walk_at "x"
    refine x_part0 (x_part1 ?_)
    walk_at "x"
    refine ⟨_, rfl, x_slA hx2 fun r1 HA sA eA => ?_⟩
    rw [cutV_to (by omega)] at eA
    walk_at "x"
    refine ⟨d, n, D, L, as, ss, m, c, i, rfl, hM2.same sA, hD2.same sA, ?_⟩
    rintro ov HB ⟨oe, hov, hoe⟩ hDB kB
    have hov : ∀ p, H p ≠ none → DAt p HB ov oe := fun p hp => hov p (sn sA (keep_some k2 hD2 p hp))
    have eA := keep_tupsG kB (hD2.same sA) _ _ eA
    have kB := (Same.keep sA).trans kB
    have hxB := keep_tupsG kB hD2 _ _ hx2
    have hSB := hS2.tups (keep_tups kB hD2)
    walk_at "x"
    refine ⟨by show 1 ≤ sizeLine; decide, fun r2 hr2 => ?_⟩
    have sr2 := same_upd (o := .tup [ov]) hr2
    have er2 : (upd HB r2 (.tup [ov])) r2 = some (.tup [ov]) := upd_same
    generalize upd HB r2 (.tup [ov]) = HC at sr2 er2
    refine x_catA (sr2 _ _ eA) er2 (by rw [List.length_take]; show min pl xs.length + 1 ≤ 1000000; omega) fun r3 HD sD eD => ?_
    have sBD := sr2.trans sD
    refine x_sl2 ?_
    walk_at "x"
    refine x_part1 ?_
    walk_at "x"
    refine ⟨_, rfl, x_part0 (x_slA (sBD _ _ hxB) fun r4 HE sE eE => ?_)⟩
    rw [show (pl : Int) + 1 = ((pl + 1 : Nat) : Int) from rfl, cutV_from (by omega)] at eE
    refine x_catA (sE _ _ eD) eE (by rw [List.length_append, List.length_take, List.length_drop]; show min pl xs.length + 1 + _ ≤ 1000000; omega) fun r5 HF sF eF => ?_
    have sF := (sBD.trans sE).trans sF
    exact fin HF r5 _ ((stpEs s).take pl ++ [oe] ++ (stpEs s).drop (pl + 1)) (hDB.same sF) ((k2.trans kB).trans (Same.keep sF)) eF (fun p hp => ((DAts.same sF _ (hSB.dats hxB)).take.app (.cons (DAt.same sF _ (hov p hp)) .nil)).app (DAts.same sF _ (hSB.dats hxB)).drop) (el_up (al_app (al_app (al_take hel) (al_cons hoe al_nil)) (al_drop hel)) (by decide))


end
end Br
namespace Br
open PySem PySem.Spec PyProof.Rows L2
local macro_rules | `(tactic| walk_at "x1") => `(tactic| (with_reducible first
  | refine Br.x_seq ?_ | refine Br.x_set ?_ | refine Br.x_asg ?_ | refine Br.x_next ?_ | refine Br.x_ret ?_ | refine Br.x_retN ?_ | refine Br.x_drop ?_ | refine Br.x_if ?_ | refine Br.x_brk ?_ | refine Br.x_cont ?_
  | refine Br.x_c ?_ | refine Br.x_op ?_ | refine Br.x_un ?_ | refine Br.x_I0 ?_ | refine Br.x_U ?_ | refine Br.x_EqI ?_ | refine Br.x_NeI ?_ | refine Br.x_EqB ?_ | refine Br.x_iN ?_ | refine Br.x_int1 ?_ | refine Br.x_min2 ?_ | refine Br.x_max2 ?_ | refine Br.x_nN ?_ | refine Br.x_ifE ?_
  | refine Br.x_test (b := ()) ?_ | refine Br.x_tB ?_ | refine Br.x_bl ?_ | refine Br.x_and ?_ | refine Br.x_or ?_ | refine Br.x_not ?_ | refine Br.x_andV ?_ | refine Br.x_orV ?_ | refine Br.x_notV ?_ | refine Br.x_blP ?_
  | refine Br.x_nil ?_ | refine Br.x_cons ?_ | refine Br.x_call ?_ | refine Br.x_CB ?_ | refine Br.x_BM ?_ | refine Br.x_tup ?_ | refine Br.x_lst ?_ | refine Br.x_chain ?_ | refine Br.x_par ?_ | refine Br.x_gSub ?_ | refine Br.x_gName ?_ | refine Br.x_fld ?_ | refine Br.x_fldS ?_ | refine Br.x_match ?_ | refine Br.x_else ?_ | refine Br.x_noCase ?_))
local macro_rules | `(tactic| walk_at "xv") => `(tactic| ((with_reducible refine' Br.x_var ?hvar ?_); (case hvar => rfl)))
local macro_rules | `(tactic| walk_at "xd") => `(tactic| (dsimp only [List.set_cons_zero, List.set_cons_succ, List.cons_append, List.nil_append, List.append_nil]))
local macro_rules | `(tactic| walk_at "xi") => `(tactic| ((with_reducible refine Br.x_I ?hside ?_); (case hside => first | exact Br.mul_r (by decide) (by decide) | exact Br.mul_l (by decide) (by decide) | exact Br.mul_l (by omega) (by omega) | exact Br.mul_r (by omega) (by omega) | (show (0 : Int) < _; first | decide | omega) | exact ⟨by decide, by decide⟩ | exact ⟨by omega, by omega⟩ | exact ⟨by decide, by decide, by decide⟩)))
local macro_rules | `(tactic| walk_at "x") => `(tactic| (repeat (first | walk_at "x1" | walk_at "xv" | walk_at "xi" | walk_at "xd")))
local macro_rules | `(tactic| walk_at "start") => `(tactic| (simp only [L2.start, List.map_cons, List.map_nil, List.length_cons, List.length_nil, Nat.reduceAdd, Nat.reduceSub, List.replicate, List.cons_append, List.nil_append, List.append_nil]))
local macro_rules | `(tactic| walk_at "isi") => `(tactic| first
  | refine Br.x_isi (b := true) (.base (.int _)) (by decide +kernel) ?_ | refine Br.x_isi (b := false) (.base (.int _)) (by decide +kernel) ?_
  | refine Br.x_isi (b := true) (.base (.bl _)) (by decide +kernel) ?_ | refine Br.x_isi (b := false) (.base (.bl _)) (by decide +kernel) ?_
  | refine Br.x_isi (b := false) (.base .non) (by decide +kernel) ?_
  | refine Br.x_isi (b := true) (.base (.str _)) (by decide +kernel) ?_ | refine Br.x_isi (b := false) (.base (.str _)) (by decide +kernel) ?_
  | refine Br.x_isi (b := true) (.base (.tup (by assumption))) (by decide +kernel) ?_ | refine Br.x_isi (b := false) (.base (.tup (by assumption))) (by decide +kernel) ?_
  | refine Br.x_isi (b := true) (.base (.lst (by assumption))) (by decide +kernel) ?_ | refine Br.x_isi (b := false) (.base (.lst (by assumption))) (by decide +kernel) ?_)
local macro_rules | `(tactic| walk_at "f") => `(tactic| (refine L2.iteF ?_; walk_at "x"))
local macro_rules | `(tactic| walk_at "t") => `(tactic| (refine L2.iteT ?_; walk_at "x"))
local macro_rules | `(tactic| walk_at "is") => `(tactic| (walk_at "isi"; walk_at "x"))
local macro_rules | `(tactic| walk_at "xb") => `(tactic| (simp only [Br.bindS, List.set_cons_zero, List.set_cons_succ]; walk_at "x"))

section
variable {P : Program} {w : World} {K : PySem.W.Frag} {mg : Str → Option Value} {base : Heap}

open Br.F
section
variable {d : Addr} {H H' : Hp}
mutual
theorem DAt.mv (k1 : ∀ b xs, H b = some (.lst xs) → H' b = some (.lst xs)) (k2 : ∀ b xs, H b = some (.tup xs) → H' b = some (.tup xs)) : ∀ (e : PyData) {v : V}, DAt d H v e → DAt d H' v e
  | .none, _, h => by cases h; exact .non
  | .bool b, _, h => by cases h; exact .bl b
  | .int i, _, h => by cases h; exact .int i
  | .str x, _, h => by cases h; exact .str x
  | .list ds, _, h => by
    cases h with
    | lst hn h hs => exact .lst hn (k1 _ _ h) (DAts.mv k1 k2 ds hs)
  | .tuple ds, _, h => by
    cases h with
    | tup h hs => exact .tup (k2 _ _ h) (DAts.mv k1 k2 ds hs)
  | .dict _, _, h => by cases h
theorem DAts.mv (k1 : ∀ b xs, H b = some (.lst xs) → H' b = some (.lst xs)) (k2 : ∀ b xs, H b = some (.tup xs) → H' b = some (.tup xs)) : ∀ (es : List PyData) {vs : List V}, DAts d H vs es → DAts d H' vs es
  | [], _, h => by cases h; exact .nil
  | e :: es, _, h => by
    cases h with
    | cons h hs => exact .cons (DAt.mv k1 k2 e h) (DAts.mv k1 k2 es hs)
end
mutual
/-- apart from what is not there -/
theorem DAt.fresh {p : Addr} (hp : H p = none) : ∀ (e : PyData) {v : V}, DAt d H v e → DAt p H v e
  | .none, _, h => by cases h; exact .non
  | .bool b, _, h => by cases h; exact .bl b
  | .int i, _, h => by cases h; exact .int i
  | .str x, _, h => by cases h; exact .str x
  | .list ds, _, h => by
    cases h with
    | lst hn h hs => exact .lst (fun z => by rw [z, hp] at h; cases h) h (DAts.fresh hp ds hs)
  | .tuple ds, _, h => by
    cases h with
    | tup h hs => exact .tup h (DAts.fresh hp ds hs)
  | .dict _, _, h => by cases h
theorem DAts.fresh {p : Addr} (hp : H p = none) : ∀ (es : List PyData) {vs : List V}, DAts d H vs es → DAts p H vs es
  | [], _, h => by cases h; exact .nil
  | e :: es, _, h => by
    cases h with
    | cons h hs => exact .cons (DAt.fresh hp e h) (DAts.fresh hp es hs)
end
end
theorem DAt.putD {d D : Addr} {H : Hp} {k1 k2 : List (Key × V)} (h : H D = some (.dK k1)) {e : PyData} {v : V} (hv : DAt d H v e) : DAt d (upd H D (.dK k2)) v e :=
  DAt.mv (fun b xs hb => by rw [upd_ne (ne_of hb h (by intro z; cases z))]; exact hb) (fun b xs hb => by rw [upd_ne (ne_of hb h (by intro z; cases z))]; exact hb) e hv
def mdlX (vm vc vi v : V) : List (Key × V) := [(.inr "modulus", vm), (.inr "cells", vc), (.inr "inputs", vi), (.inr "steps", v)]
theorem mdlX_m {vm vc vi v : V} : valV (mdlX vm vc vi v) (.inr "modulus") = some vm := rfl
theorem mdlX_c {vm vc vi v : V} : valV (mdlX vm vc vi v) (.inr "cells") = some vc := rfl
theorem mdlX_i {vm vc vi v : V} : valV (mdlX vm vc vi v) (.inr "inputs") = some vi := rfl
theorem mdlX_s {vm vc vi v : V} : valV (mdlX vm vc vi v) (.inr "steps") = some v := rfl
/-- the steps that are handed over: a list or a tuple of short things -/
def StL (e : PyData) : Prop := ∃ es, (e = .list es ∨ e = .tuple es) ∧ es.length ≤ 20000 ∧ ∀ x, x ∈ es → St x
/-- the law's model, spoilt or not -/
structure MX (H : Hp) (d D : Addr) (vm vc vi v : V) (e : PyData) : Prop where
  dk : H D = some (.dK (mdlX vm vc vi v))
  om : ∃ em, DAt d H vm em
  oc : ∃ em, DAt d H vc em
  oi : ∃ em, DAt d H vi em
  st : DAt d H v e
  fm : StL e
theorem MX.same {H H' : Hp} {d D : Addr} {vm vc vi v : V} {e : PyData} (h : MX H d D vm vc vi v e) (s : Same H H') : MX H' d D vm vc vi v e :=
  ⟨s _ _ h.dk, let ⟨x, y⟩ := h.om; ⟨x, DAt.same s x y⟩, let ⟨x, y⟩ := h.oc; ⟨x, DAt.same s x y⟩, let ⟨x, y⟩ := h.oi; ⟨x, DAt.same s x y⟩, DAt.same s _ h.st, h.fm⟩
theorem MX.keep {H H' : Hp} {d n D : Addr} {vm vc vi v : V} {e : PyData} (h : MX H d D vm vc vi v e) (hD : Dr H d n) (k : Keep d H H') : MX H' d D vm vc vi v e :=
  ⟨k.notL hD h.dk (by intro _ z; cases z), let ⟨x, y⟩ := h.om; ⟨x, DAt.keep hD.lst k x y⟩, let ⟨x, y⟩ := h.oc; ⟨x, DAt.keep hD.lst k x y⟩, let ⟨x, y⟩ := h.oi; ⟨x, DAt.keep hD.lst k x y⟩, DAt.keep hD.lst k _ h.st, h.fm⟩
theorem stps_dat {d : Addr} {H : Hp} {as : List Addr} {ss : List Stp} (h : StpsAt H as ss) : DAts d H (as.map V.ref) (ss.map fun s => .tuple (stpEs s)) :=
  DAts.of (by rw [List.length_map, List.length_map, h.1]) fun i x e hx he => by
    obtain ⟨b, hb, rfl⟩ := map_getR hx
    rw [List.getElem?_map] at he
    cases hr : ss[i]? with
    | none => rw [hr] at he; cases he
    | some r =>
      rw [hr] at he
      cases he
      obtain ⟨xs, h1, h2⟩ := (h.2 i r b hr hb).dat (d := d)
      exact .tup h1 h2
theorem stps_st {m c i : Nat} {ss : List Stp} (ok : ∀ s, s ∈ ss → StpOk m c i s) : ∀ x, x ∈ ss.map (fun s => PyData.tuple (stpEs s)) → St x := fun x hx => by
  obtain ⟨s, hs, rfl⟩ := List.mem_map.mp hx
  exact St.tup (el_up (stp_el (ok s hs)) (by decide))
theorem MdAt.mx {H : Hp} {d D L : Addr} {as : List Addr} {ss : List Stp} {m c i : Nat} (h : MdAt H d D L as ss m c i) : MX H d D (.int (m : Int)) (.int (c : Int)) (.int (i : Int)) (.ref L) (.list (ss.map fun s => .tuple (stpEs s))) :=
  ⟨h.dk, ⟨_, .int _⟩, ⟨_, .int _⟩, ⟨_, .int _⟩, .lst h.ne h.lst (stps_dat h.st), ⟨_, .inl rfl, by rw [List.length_map]; exact h.ok.len, stps_st h.ok.ok⟩⟩
theorem dk_ne {H : Hp} {d n D : Addr} {k : List (Key × V)} (hD : Dr H d n) (h : H D = some (.dK k)) : D ≠ d ∧ D ≠ n := by
  obtain ⟨_, _, e1, e2, _⟩ := hD
  exact ⟨fun z => (by rw [z, e1] at h; cases h), fun z => (by rw [z, e2] at h; cases h)⟩
theorem MX.put {H : Hp} {d n D : Addr} {vm vc vi v wm wc wi w : V} {e f : PyData} (h : MX H d D vm vc vi v e) (om : ∃ em, DAt d H wm em) (oc : ∃ em, DAt d H wc em) (oi : ∃ em, DAt d H wi em) (st : DAt d H w f) (fm : StL f) : MX (upd H D (.dK (mdlX wm wc wi w))) d D wm wc wi w f :=
  ⟨upd_same, let ⟨x, y⟩ := om; ⟨x, DAt.putD h.dk y⟩, let ⟨x, y⟩ := oc; ⟨x, DAt.putD h.dk y⟩, let ⟨x, y⟩ := oi; ⟨x, DAt.putD h.dk y⟩, DAt.putD h.dk st, fm⟩
theorem x_dputD {td ty tv : TE} {σ : L2.St} {H : Hp} {D : Ends} (h : tv σ H fun v H1 => td σ H1 fun x H2 => ty σ H2 fun y H3 => ∃ a H4, x = .ref a ∧ DPut H3 a y v H4 ∧ D.nx σ H4) : sDPut td ty tv D σ H := h
theorem DPut.kX {H : Hp} {a : Addr} {kvs : List (Key × V)} {k : Key} {v : V} (h : H a = some (.dK kvs)) (hl : kvs.length < sizeLine) : DPut H a (kV k) v (upd H a (.dK (putK kvs k v))) := .inl ⟨kvs, k, h, rfl, hl, rfl⟩

def sp_law_spoil (K : PySem.W.Frag) : Sp := fun vs H Q _ => ∃ (d n D L : Addr) (as : List Addr) (ss : List Stp) (m c i : Nat), vs = [.ref d, .ref D] ∧ MdAt H d D L as ss m c i ∧ Dr H d n ∧ ∀ (vm vc vi v : V) (e : PyData) (H' : Hp), MX H' d D vm vc vi v e → Dr H' d n → Q .non H'
theorem ok_law_spoil (T : Txt K mg) : FnOk P w K mg base CX0 6 T.a_law_spoil T.fd_law_spoil ["draws", "model"] (sp_law_spoil K) := by
  refine T.F_law_spoil.ok sc_law_spoil (fun vs H Q E h => ?_) (fun cdv A outer s H vs Q E hr h => ?_)
  · obtain ⟨d, n, D, L, as, ss, m, c, i, rfl, _⟩ := h
    rfl
  · obtain ⟨d, n, D, L, as, ss, m, c, i, rfl, hM, hD, q⟩ := h
    have int1 : ∀ {H' : Hp} {z : Int}, ∃ em, DAt d H' (.int z) em := ⟨_, .int _⟩
    refine ⟨_, (pss_cons (ps_set (i := 2) sc_law_spoil.nd rfl (.inl rfl) (pe_op op_mod (pe_call (ok_law_draw T) (hr.mono (by decide)) (by rfl) T.g_law_draw T.F_law_draw.kp T.b_law_draw .nil pass0 (pa_cons (pv 0) pa_nil)) pe_int))
      (pss_one (ps_if (pt_cmpR op_lt (pv 2) pe_int (nomark _))
      (pss_one (ps_dput (hu_of hr) (pv 1) (pe_ix (r := rIxL K) ix_list (pe_lst (pa_cons pe_str (pa_cons pe_str (pa_cons pe_str pa_nil)))) (pv 2) (fun _ _ => rfl)) (pe_call (ok_law_odd T) (hr.mono (by decide)) (by rfl) T.g_law_odd T.F_law_odd.kp T.b_law_odd .nil pass0 (pa_cons (pv 0) (pa_cons (pv 1) pa_nil))) rfl))
      (pss_one (ps_if (pt_cmpR op_eq (pv 2) pe_int (nomark _))
      (pss_one (ps_dput (hu_of hr) (pv 1) pe_str (pe_callTy (T := "tuple") (r := rTupOf K) cr_tup_of (by rfl) T.m_tuple (by decide +kernel) (pa_cons (pe_dget (hu_of hr) (pv 1) pe_str (fun _ _ => rfl)) pa_nil)) rfl))
      (pss_one (ps_if (pt_cmpR op_gt (pe_callB (id := "len") (r := rLen K) cr_len (by rfl) T.m_len PySem.boot_len (pa_cons (pe_dget (hu_of hr) (pv 1) pe_str (fun _ _ => rfl)) pa_nil)) pe_int (nomark _))
      (pss_cons (ps_set (i := 3) sc_law_spoil.nd rfl (.inl rfl) (pe_callTy (T := "list") (r := rListOf K) cr_list_of (by rfl) T.m_list (by decide +kernel) (pa_cons (pe_dget (hu_of hr) (pv 1) pe_str (fun _ _ => rfl)) pa_nil)))
      (pss_cons (ps_set (i := 4) sc_law_spoil.nd rfl (.inl rfl) (pe_op op_mod (pe_call (ok_law_draw T) (hr.mono (by decide)) (by rfl) T.g_law_draw T.F_law_draw.kp T.b_law_draw .nil pass0 (pa_cons (pv 0) pa_nil)) (pe_callB (id := "len") (r := rLen K) cr_len (by rfl) T.m_len PySem.boot_len (pa_cons (pv 3) pa_nil))))
      (pss_cons (ps_asg (pe_call (ok_law_turned T) hr (by rfl) T.g_law_turned T.F_law_turned.kp T.b_law_turned .nil pass0 (pa_cons (pv 0) (pa_cons (pv 1) (pa_cons (pe_ix (r := rIxL K) ix_list (pv 3) (pv 4) (fun _ _ => rfl)) pa_nil)))) (pg_sub (pv 3) (pv 4) set_list))
      (pss_one (ps_dput (hu_of hr) (pv 1) pe_str (pv 3) rfl)))))
      pss_nil))))))), ?_⟩
    walk_at "start"
    walk_at "x"
    refine ⟨d, n, rfl, hD, ?_⟩
    rintro _ H1 ⟨y, rfl, y0, y1⟩ hD1 k1
    have hM1 := hM.keep hD k1
    walk_at "x"
    refine x_ite (fun h3 => ?_) (fun h3 => ?_)
    · walk_at "x"
      refine x_dputD ?_
      walk_at "x"
      refine ⟨d, n, D, L, as, ss, m, c, i, rfl, hM1, hD1, ?_⟩
      rintro ov H2 ⟨oe, hov, hoe⟩ hD2 k2
      have hov := hov d hD1.ne
      have hM2 := hM1.keep hD1 k2
      walk_at "x"
      refine ⟨by show 3 ≤ sizeLine; decide, fun u hu => ?_⟩
      have su := same_upd (o := .lst [V.str "modulus", .str "cells", .str "inputs"]) hu
      have eu : (upd H2 u (.lst [V.str "modulus", .str "cells", .str "inputs"])) u = _ := upd_same
      generalize upd H2 u (.lst [V.str "modulus", .str "cells", .str "inputs"]) = H3 at su eu
      have hM3 := hM2.same su
      have hD3 := hD2.same su
      have hov := DAt.same su _ hov
      obtain ⟨nd, nn⟩ := dk_ne hD3 hM3.dk
      have hx3 := hM3.mx
      walk_at "x"
      rcases (show y % 8 = 0 ∨ y % 8 = 1 ∨ y % 8 = 2 by omega) with e | e | e
      · refine x_ixL (v := .str "modulus") (sq_of eu) (by rw [e]; rfl) ?_
        refine ⟨D, _, rfl, DPut.kX (k := Sum.inr "modulus") hM3.dk (lt_line (by show 4 < 1000000; decide)), ?_⟩
        rw [show putK (mdl (m : Int) c i L) (Sum.inr "modulus") ov = mdlX ov (.int c) (.int i) (.ref L) from rfl]
        walk_at "x"
        exact q _ _ _ _ _ _ (hx3.put (n := n) ⟨_, hov⟩ int1 int1 hx3.st hx3.fm) (hD3.upd nd nn)
      · refine x_ixL (v := .str "cells") (sq_of eu) (by rw [e]; rfl) ?_
        refine ⟨D, _, rfl, DPut.kX (k := Sum.inr "cells") hM3.dk (lt_line (by show 4 < 1000000; decide)), ?_⟩
        rw [show putK (mdl (m : Int) c i L) (Sum.inr "cells") ov = mdlX (.int m) ov (.int i) (.ref L) from rfl]
        walk_at "x"
        exact q _ _ _ _ _ _ (hx3.put (n := n) int1 ⟨_, hov⟩ int1 hx3.st hx3.fm) (hD3.upd nd nn)
      · refine x_ixL (v := .str "inputs") (sq_of eu) (by rw [e]; rfl) ?_
        refine ⟨D, _, rfl, DPut.kX (k := Sum.inr "inputs") hM3.dk (lt_line (by show 4 < 1000000; decide)), ?_⟩
        rw [show putK (mdl (m : Int) c i L) (Sum.inr "inputs") ov = mdlX (.int m) (.int c) ov (.ref L) from rfl]
        walk_at "x"
        exact q _ _ _ _ _ _ (hx3.put (n := n) int1 int1 ⟨_, hov⟩ hx3.st hx3.fm) (hD3.upd nd nn)
    walk_at "x"
    refine x_ite (fun h4 => ?_) (fun h4 => ?_)
    · walk_at "x"
      refine x_dputD ?_
      walk_at "x"
      refine x_dgVC rfl hM1.dk mdl_s ?_
      walk_at "x"
      refine x_tupL (sq_of hM1.lst) fun r hr => ?_
      have sr := same_upd (o := .tup (as.map V.ref)) hr
      have er : (upd H1 r (.tup (as.map V.ref))) r = _ := upd_same
      generalize upd H1 r (.tup (as.map V.ref)) = H3 at sr er
      have hM3 := hM1.same sr
      have hD3 := hD1.same sr
      obtain ⟨nd, nn⟩ := dk_ne hD3 hM3.dk
      have hx3 := hM3.mx
      walk_at "x"
      refine ⟨D, _, rfl, DPut.kX (k := Sum.inr "steps") hM3.dk (lt_line (by show 4 < 1000000; decide)), ?_⟩
      rw [show putK (mdl (m : Int) c i L) (Sum.inr "steps") (.ref r) = mdlX (.int m) (.int c) (.int i) (.ref r) from rfl]
      walk_at "x"
      exact q _ _ _ _ _ _ (hx3.put (n := n) int1 int1 int1 (.tup er (stps_dat hM3.st)) ⟨_, .inr rfl, by rw [List.length_map]; exact hM3.ok.len, stps_st hM3.ok.ok⟩) (hD3.upd nd nn)
    walk_at "x"
    refine x_dgVC rfl hM1.dk mdl_s ?_
    walk_at "x"
    refine x_len (sq_of hM1.lst) ?_
    have hml : (as.map V.ref).length = ss.length := by rw [List.length_map, hM.st.1]
    rw [hml]
    walk_at "x"
    refine x_ite (fun h5 => ?_) (fun h5 => ?_)
    · walk_at "x"
      refine x_dgVC rfl hM1.dk mdl_s ?_
      walk_at "x"
      refine x_listL (sq_of hM1.lst) fun S hS => ?_
      have sS := same_upd (o := .lst (as.map V.ref)) hS
      have eS : (upd H1 S (.lst (as.map V.ref))) S = some (.lst (as.map V.ref)) := upd_same
      have Sd : S ≠ d := hD1.new hS
      have Sn : S ≠ n := hD1.newN hS
      generalize upd H1 S (.lst (as.map V.ref)) = H2 at sS eS
      have hM2 := hM1.same sS
      have hD2 := hD1.same sS
      walk_at "x"
      refine ⟨d, n, rfl, hD2, ?_⟩
      rintro _ H3 ⟨w, rfl, w0, w1⟩ hD3 k3
      have eS3 := k3 _ _ eS Sd
      have hM3 := hM2.keep hD2 k3
      walk_at "x"
      refine x_len (sq_of eS3) ?_
      rw [hml]
      walk_at "x"
      obtain ⟨at0, ea, hat⟩ := cast_lt (x := w % (ss.length : Int)) (c := ss.length) (Int.emod_nonneg w (by omega)) (Int.emod_lt_of_pos w (by omega))
      rw [ea]
      obtain ⟨s, hs⟩ : ∃ s, ss[at0]? = some s := ⟨_, List.getElem?_eq_getElem hat⟩
      obtain ⟨b, hb⟩ : ∃ b, as[at0]? = some b := ⟨_, List.getElem?_eq_getElem (by have := hM.st.1; omega)⟩
      refine x_ixL (v := .ref b) (sq_of eS3) (atI_nat (by rw [List.getElem?_map, hb]; rfl)) ?_
      walk_at "x"
      refine ⟨d, n, D, L, b, as, ss, m, c, i, s, rfl, hM3, hM3.st.2 at0 s b hs hb, hM3.ok.ok s (List.mem_of_getElem? hs), hD3, ?_⟩
      rintro v H4 ⟨e, hv, hst⟩ hD4 k4
      have eS4 := k4 _ _ eS3 Sd
      have hM4 := hM3.keep hD3 k4
      have hvd := hv d hD3.ne
      have hvS := hv S (by rw [eS3]; exact fun z => nomatch z)
      walk_at "x"
      refine x_subL eS4 (ixN_nat (by omega)) ?_
      have kS : Keep S H4 (upd H4 S (.lst ((as.map V.ref).set at0 v))) := fun b o e h => by rw [upd_ne h]; exact e
      have e5 : (upd H4 S (.lst ((as.map V.ref).set at0 v))) S = some (.lst ((as.map V.ref).set at0 v)) := upd_same
      have hD5 : Dr (upd H4 S (.lst ((as.map V.ref).set at0 v))) d n := hD4.upd Sd Sn
      generalize upd H4 S (.lst ((as.map V.ref).set at0 v)) = H5 at kS e5 hD5
      have hv5 := DAt.keep2 ⟨_, eS4⟩ kS e hvS hvd
      have tS : Tups H4 H5 := Tups.keep kS eS4
      have hs5 : DAts d H5 ((as.map V.ref).set at0 v) ((ss.map fun s => PyData.tuple (stpEs s)).set at0 e) := (stps_dat (hM4.st.tups tS)).set hv5
      have hd5 : H5 D = some (.dK (mdl m c i L)) := kS _ _ hM4.dk (ne_of hM4.dk eS4 (by intro z; cases z))
      obtain ⟨nd, nn⟩ := dk_ne hD5 hd5
      walk_at "x"
      refine x_dputD ?_
      walk_at "x"
      refine ⟨D, _, rfl, DPut.kX (k := Sum.inr "steps") hd5 (lt_line (by show 4 < 1000000; decide)), ?_⟩
      rw [show putK (mdl (m : Int) c i L) (Sum.inr "steps") (.ref S) = mdlX (.int m) (.int c) (.int i) (.ref S) from rfl]
      walk_at "x"
      exact q _ _ _ _ (.list ((ss.map fun s => PyData.tuple (stpEs s)).set at0 e)) _ ⟨upd_same, int1, int1, int1, DAt.putD hd5 (.lst Sd e5 hs5), ⟨_, .inl rfl, by rw [List.length_set, List.length_map]; exact hM.ok.len, al_set (stps_st hM.ok.ok) hst⟩⟩ (hD5.upd nd nn)
    · walk_at "x"
      exact q _ _ _ _ _ _ hM1.mx hD1


end
end Br
namespace Br
open PySem PySem.Spec PyProof.Rows L2
local macro_rules | `(tactic| walk_at "x1") => `(tactic| (with_reducible first
  | refine Br.x_seq ?_ | refine Br.x_set ?_ | refine Br.x_asg ?_ | refine Br.x_next ?_ | refine Br.x_ret ?_ | refine Br.x_retN ?_ | refine Br.x_drop ?_ | refine Br.x_if ?_ | refine Br.x_brk ?_ | refine Br.x_cont ?_
  | refine Br.x_c ?_ | refine Br.x_op ?_ | refine Br.x_un ?_ | refine Br.x_I0 ?_ | refine Br.x_U ?_ | refine Br.x_EqI ?_ | refine Br.x_NeI ?_ | refine Br.x_EqB ?_ | refine Br.x_iN ?_ | refine Br.x_int1 ?_ | refine Br.x_min2 ?_ | refine Br.x_max2 ?_ | refine Br.x_nN ?_ | refine Br.x_ifE ?_
  | refine Br.x_test (b := ()) ?_ | refine Br.x_tB ?_ | refine Br.x_bl ?_ | refine Br.x_and ?_ | refine Br.x_or ?_ | refine Br.x_not ?_ | refine Br.x_andV ?_ | refine Br.x_orV ?_ | refine Br.x_notV ?_ | refine Br.x_blP ?_
  | refine Br.x_nil ?_ | refine Br.x_cons ?_ | refine Br.x_call ?_ | refine Br.x_CB ?_ | refine Br.x_BM ?_ | refine Br.x_tup ?_ | refine Br.x_lst ?_ | refine Br.x_chain ?_ | refine Br.x_par ?_ | refine Br.x_gSub ?_ | refine Br.x_gName ?_ | refine Br.x_fld ?_ | refine Br.x_fldS ?_ | refine Br.x_match ?_ | refine Br.x_else ?_ | refine Br.x_noCase ?_))
local macro_rules | `(tactic| walk_at "xv") => `(tactic| ((with_reducible refine' Br.x_var ?hvar ?_); (case hvar => rfl)))
local macro_rules | `(tactic| walk_at "xd") => `(tactic| (dsimp only [List.set_cons_zero, List.set_cons_succ, List.cons_append, List.nil_append, List.append_nil]))
local macro_rules | `(tactic| walk_at "xi") => `(tactic| ((with_reducible refine Br.x_I ?hside ?_); (case hside => first | exact Br.mul_r (by decide) (by decide) | exact Br.mul_l (by decide) (by decide) | exact Br.mul_l (by omega) (by omega) | exact Br.mul_r (by omega) (by omega) | (show (0 : Int) < _; first | decide | omega) | exact ⟨by decide, by decide⟩ | exact ⟨by omega, by omega⟩ | exact ⟨by decide, by decide, by decide⟩)))
local macro_rules | `(tactic| walk_at "x") => `(tactic| (repeat (first | walk_at "x1" | walk_at "xv" | walk_at "xi" | walk_at "xd")))
local macro_rules | `(tactic| walk_at "start") => `(tactic| (simp only [L2.start, List.map_cons, List.map_nil, List.length_cons, List.length_nil, Nat.reduceAdd, Nat.reduceSub, List.replicate, List.cons_append, List.nil_append, List.append_nil]))
local macro_rules | `(tactic| walk_at "isi") => `(tactic| first
  | refine Br.x_isi (b := true) (.base (.int _)) (by decide +kernel) ?_ | refine Br.x_isi (b := false) (.base (.int _)) (by decide +kernel) ?_
  | refine Br.x_isi (b := true) (.base (.bl _)) (by decide +kernel) ?_ | refine Br.x_isi (b := false) (.base (.bl _)) (by decide +kernel) ?_
  | refine Br.x_isi (b := false) (.base .non) (by decide +kernel) ?_
  | refine Br.x_isi (b := true) (.base (.str _)) (by decide +kernel) ?_ | refine Br.x_isi (b := false) (.base (.str _)) (by decide +kernel) ?_
  | refine Br.x_isi (b := true) (.base (.tup (by assumption))) (by decide +kernel) ?_ | refine Br.x_isi (b := false) (.base (.tup (by assumption))) (by decide +kernel) ?_
  | refine Br.x_isi (b := true) (.base (.lst (by assumption))) (by decide +kernel) ?_ | refine Br.x_isi (b := false) (.base (.lst (by assumption))) (by decide +kernel) ?_)
local macro_rules | `(tactic| walk_at "f") => `(tactic| (refine L2.iteF ?_; walk_at "x"))
local macro_rules | `(tactic| walk_at "t") => `(tactic| (refine L2.iteT ?_; walk_at "x"))
local macro_rules | `(tactic| walk_at "is") => `(tactic| (walk_at "isi"; walk_at "x"))
local macro_rules | `(tactic| walk_at "xb") => `(tactic| (simp only [Br.bindS, List.set_cons_zero, List.set_cons_succ]; walk_at "x"))

section
variable {P : Program} {w : World} {K : PySem.W.Frag} {mg : Str → Option Value} {base : Heap}


def sp_law_equal (n : Nat) (K : PySem.W.Frag) : Sp := fun vs H Q _ => ∃ v u, vs = [v, u] ∧ Eqv K H n v u ∧ Q (.bl true) H
def sp_law_all_equal (n : Nat) (K : PySem.W.Frag) : Sp := fun vs H Q _ => ∃ (a b : Addr) (xs ys : List V), vs = [.ref a, .ref b] ∧ ((H a = some (.lst xs) ∧ H b = some (.lst ys)) ∨ (H a = some (.tup xs) ∧ H b = some (.tup ys))) ∧ xs.length = ys.length ∧ ys.length ≤ 100000 ∧ (∀ (i : Nat) x y, xs[i]? = some x → ys[i]? = some y → Eqv K H n x y) ∧ Q (.bl true) H
theorem x_ixQ {K : PySem.W.Frag} {H : Hp} {a b : Addr} {xs ys : List V} {i : Int} {v : V} {Q : VK} (h : (H a = some (.lst xs) ∧ H b = some (.lst ys)) ∨ (H a = some (.tup xs) ∧ H b = some (.tup ys))) (hi : atI xs i = some v) (q : Q v H) : rIx K (.ref a) (.int i) H Q := by
  rcases h with h | h
  · exact .inl (x_ixL (sq_of h.1) hi q)
  · exact .inr (.inl (x_ixT (st_of h.1) hi q))
theorem x_ixQ2 {K : PySem.W.Frag} {H : Hp} {a b : Addr} {xs ys : List V} {i : Int} {v : V} {Q : VK} (h : (H a = some (.lst xs) ∧ H b = some (.lst ys)) ∨ (H a = some (.tup xs) ∧ H b = some (.tup ys))) (hi : atI ys i = some v) (q : Q v H) : rIx K (.ref b) (.int i) H Q := by
  rcases h with h | h
  · exact .inl (x_ixL (sq_of h.2) hi q)
  · exact .inr (.inl (x_ixT (st_of h.2) hi q))
theorem all_equal_of (T : Txt K mg) (n : Nat) (G_law_equal : FnOk P w K mg base CX0 (2 * n + 1) T.a_law_equal T.fd_law_equal ["actual", "due"] (sp_law_equal n K)) : FnOk P w K mg base CX0 (2 * n + 2) T.a_law_all_equal T.fd_law_all_equal ["actual", "due"] (sp_law_all_equal n K) := by
  refine T.F_law_all_equal.ok sc_law_all_equal (fun vs H Q E h => ?_) (fun cdv A outer s H vs Q E hr h => ?_)
  · obtain ⟨a, b, xs, ys, rfl, _⟩ := h
    rfl
  · obtain ⟨a, b, xs, ys, rfl, hab, hl, hz, he, q⟩ := h
    refine ⟨_, (pss_cons (ps_for PassesOwn.never rfl (pi_range1 (by rfl) T.m_range (pa_cons (pe_callB (id := "len") (r := rLen K) cr_len (by rfl) T.m_len PySem.boot_len (pa_cons (pv 1) pa_nil)) pa_nil)) (pg_name (i := 2) sc_law_all_equal.nd rfl (Or.inl rfl))
      (pss_one (ps_if (pt_not (pt_val (pe_call G_law_equal (hr.mono (by omega)) (by rfl) T.g_law_equal T.F_law_equal.kp T.b_law_equal .nil pass0 (pa_cons (pe_ix (r := rIx K) ix_seq (pv 0) (pv 2) (fun _ _ => rfl)) (pa_cons (pe_ix (r := rIx K) ix_seq (pv 1) (pv 2) (fun _ _ => rfl)) pa_nil)))))
      (pss_one (ps_ret pe_bl))
      pss_nil)))
      (pss_one (ps_ret pe_bl))), ?_⟩
    walk_at "start"
    refine x_forR1 (ys.length : Int) (fun i σ' H' => H = H' ∧ ∃ v2, σ' = [some (.ref a), some (.ref b), v2]) (fun R r => by
      walk_at "x"
      rcases hab with h | h
      · refine x_len (sq_of h.2) ?_
        exact r
      · refine x_lenT (st_of h.2) ?_
        exact r) (by omega) (by omega) ⟨rfl, _, rfl⟩ ?_ ?_
    · rintro i σ' H' hi ⟨rfl, v2, rfl⟩
      obtain ⟨x, gx⟩ : ∃ x, xs[i]? = some x := ⟨_, List.getElem?_eq_getElem (by omega)⟩
      obtain ⟨y, gy⟩ : ∃ y, ys[i]? = some y := ⟨_, List.getElem?_eq_getElem (by omega)⟩
      walk_at "x"
      refine x_ixQ hab (atI_nat gx) ?_
      walk_at "x"
      refine x_ixQ2 hab (atI_nat gy) ?_
      walk_at "x"
      refine ⟨x, y, rfl, he i x y gx gy, ?_⟩
      walk_at "x"
      walk_at "f"
      exact ⟨rfl, _, rfl⟩
    · rintro σ' H' ⟨rfl, v2, rfl⟩
      walk_at "x"
      exact q
theorem ok_law_equal (T : Txt K mg) : ∀ n : Nat, FnOk P w K mg base CX0 (2 * n + 1) T.a_law_equal T.fd_law_equal ["actual", "due"] (sp_law_equal n K)
  | 0 => by
    refine T.F_law_equal.ok sc_law_equal (fun vs H Q E h => ?_) (fun cdv A outer s H vs Q E hr h => ?_)
    · obtain ⟨v, u, rfl, h, _⟩ := h
      exact h.elim
    · obtain ⟨v, u, rfl, h, _⟩ := h
      exact h.elim
  | n + 1 => by
    have G_law_all_equal := all_equal_of T n (ok_law_equal T n)
    refine T.F_law_equal.ok (k := 2 * n + 2) sc_law_equal (fun vs H Q E h => ?_) (fun cdv A outer s H vs Q E hr h => ?_)
    · obtain ⟨v, u, rfl, _⟩ := h
      rfl
    · obtain ⟨v, u, rfl, h, q⟩ := h
      refine ⟨_, (pss_cons (ps_if (pt_val (pe_callB (id := "isinstance") (r := rIsi K) call_isi (by rfl) T.m_isinstance (by decide +kernel) (pa_cons (pv 1) (pa_cons (pe_bltn (v := .ty "list") (by rfl) T.m_list (by decide +kernel) rfl) pa_nil))))
      (pss_cons (ps_if (PW.pt (pw_or (pt_not (pt_val (pe_callB (id := "isinstance") (r := rIsi K) call_isi (by rfl) T.m_isinstance (by decide +kernel) (pa_cons (pv 0) (pa_cons (pe_bltn (v := .ty "list") (by rfl) T.m_list (by decide +kernel) rfl) pa_nil))))) (pw_or1 (pt_cmpR op_ne (pe_callB (id := "len") (r := rLen K) cr_len (by rfl) T.m_len PySem.boot_len (pa_cons (pv 0) pa_nil)) (pe_callB (id := "len") (r := rLen K) cr_len (by rfl) T.m_len PySem.boot_len (pa_cons (pv 1) pa_nil)) (nomark _)))))
      (pss_one (ps_ret pe_bl))
      pss_nil)
      (pss_one (ps_ret (pe_call G_law_all_equal (hr.mono (by omega)) (by rfl) T.g_law_all_equal T.F_law_all_equal.kp T.b_law_all_equal .nil pass0 (pa_cons (pv 0) (pa_cons (pv 1) pa_nil))))))
      pss_nil)
      (pss_cons (ps_if (pt_val (pe_callB (id := "isinstance") (r := rIsi K) call_isi (by rfl) T.m_isinstance (by decide +kernel) (pa_cons (pv 1) (pa_cons (pe_bltn (v := .ty "tuple") (by rfl) T.m_tuple (by decide +kernel) rfl) pa_nil))))
      (pss_cons (ps_if (PW.pt (pw_or (pt_not (pt_val (pe_callB (id := "isinstance") (r := rIsi K) call_isi (by rfl) T.m_isinstance (by decide +kernel) (pa_cons (pv 0) (pa_cons (pe_bltn (v := .ty "tuple") (by rfl) T.m_tuple (by decide +kernel) rfl) pa_nil))))) (pw_or1 (pt_cmpR op_ne (pe_callB (id := "len") (r := rLen K) cr_len (by rfl) T.m_len PySem.boot_len (pa_cons (pv 0) pa_nil)) (pe_callB (id := "len") (r := rLen K) cr_len (by rfl) T.m_len PySem.boot_len (pa_cons (pv 1) pa_nil)) (nomark _)))))
      (pss_one (ps_ret pe_bl))
      pss_nil)
      (pss_one (ps_ret (pe_call G_law_all_equal (hr.mono (by omega)) (by rfl) T.g_law_all_equal T.F_law_all_equal.kp T.b_law_all_equal .nil pass0 (pa_cons (pv 0) (pa_cons (pv 1) pa_nil))))))
      pss_nil)
      (pss_cons (ps_if (pt_val (pe_callB (id := "isinstance") (r := rIsi K) call_isi (by rfl) T.m_isinstance (by decide +kernel) (pa_cons (pv 1) (pa_cons (pe_bltn (v := .ty "bool") (by rfl) T.m_bool (by decide +kernel) rfl) pa_nil))))
      (pss_one (ps_ret (pe_and (pe_callB (id := "isinstance") (r := rIsi K) call_isi (by rfl) T.m_isinstance (by decide +kernel) (pa_cons (pv 0) (pa_cons (pe_bltn (v := .ty "bool") (by rfl) T.m_bool (by decide +kernel) rfl) pa_nil))) (pe_one (pe_cmpR op_eq (pv 0) (pv 1) (nomark _))))))
      pss_nil)
      (pss_cons (ps_if (pt_val (pe_callB (id := "isinstance") (r := rIsi K) call_isi (by rfl) T.m_isinstance (by decide +kernel) (pa_cons (pv 1) (pa_cons (pe_bltn (v := .ty "int") (by rfl) T.m_int (by decide +kernel) rfl) pa_nil))))
      (pss_one (ps_ret (pe_and (pe_callB (id := "isinstance") (r := rIsi K) call_isi (by rfl) T.m_isinstance (by decide +kernel) (pa_cons (pv 0) (pa_cons (pe_bltn (v := .ty "int") (by rfl) T.m_int (by decide +kernel) rfl) pa_nil))) (pe_and (pe_not (pe_callB (id := "isinstance") (r := rIsi K) call_isi (by rfl) T.m_isinstance (by decide +kernel) (pa_cons (pv 0) (pa_cons (pe_bltn (v := .ty "bool") (by rfl) T.m_bool (by decide +kernel) rfl) pa_nil)))) (pe_one (pe_cmpR op_eq (pv 0) (pv 1) (nomark _)))))))
      pss_nil)
      (pss_cons (ps_if (pt_val (pe_callB (id := "isinstance") (r := rIsi K) call_isi (by rfl) T.m_isinstance (by decide +kernel) (pa_cons (pv 1) (pa_cons (pe_bltn (v := .ty "str") (by rfl) T.m_str (by decide +kernel) rfl) pa_nil))))
      (pss_one (ps_ret (pe_and (pe_callB (id := "isinstance") (r := rIsi K) call_isi (by rfl) T.m_isinstance (by decide +kernel) (pa_cons (pv 0) (pa_cons (pe_bltn (v := .ty "str") (by rfl) T.m_str (by decide +kernel) rfl) pa_nil))) (pe_one (pe_cmpR op_eq (pv 0) (pv 1) (nomark _))))))
      pss_nil)
      (pss_one (ps_ret (pe_cmpR op_isN1 (pv 0) pe_non (nomark _))))))))), ?_⟩
      walk_at "start"
      rcases h with ⟨i, rfl, rfl⟩ | ⟨z, rfl, rfl⟩ | ⟨z, rfl, rfl⟩ | ⟨rfl, rfl⟩ | ⟨a, b, xs, ys, rfl, rfl, hab, hl, hz, he⟩
      · walk_at "x"
        walk_at "is"
        walk_at "f"
        walk_at "is"
        walk_at "f"
        walk_at "is"
        walk_at "f"
        walk_at "is"
        walk_at "t"
        walk_at "is"
        walk_at "t"
        walk_at "is"
        walk_at "t"
        rw [decide_eq_true rfl]
        exact q
      · walk_at "x"
        walk_at "is"
        walk_at "f"
        walk_at "is"
        walk_at "f"
        walk_at "is"
        walk_at "f"
        walk_at "is"
        walk_at "f"
        walk_at "is"
        walk_at "t"
        walk_at "is"
        walk_at "t"
        refine x_Eq rfl ?_
        rw [decide_eq_true rfl]
        exact q
      · walk_at "x"
        walk_at "is"
        walk_at "f"
        walk_at "is"
        walk_at "f"
        walk_at "is"
        walk_at "t"
        walk_at "is"
        walk_at "t"
        rw [decide_eq_true rfl]
        exact q
      · walk_at "x"
        walk_at "is"
        walk_at "f"
        walk_at "is"
        walk_at "f"
        walk_at "is"
        walk_at "f"
        walk_at "is"
        walk_at "f"
        walk_at "is"
        walk_at "f"
        rw [decide_eq_true rfl]
        exact q
      · rcases id hab with ⟨h1, h2⟩ | ⟨h1, h2⟩
        · walk_at "x"
          walk_at "is"
          walk_at "t"
          walk_at "is"
          walk_at "f"
          refine x_len (sq_of h1) ?_
          walk_at "x"
          refine x_len (sq_of h2) ?_
          walk_at "x"
          rw [hl, decide_eq_true rfl]
          walk_at "f"
          exact ⟨a, b, xs, ys, rfl, hab, hl, hz, he, q⟩
        · walk_at "x"
          walk_at "is"
          walk_at "f"
          walk_at "is"
          walk_at "t"
          walk_at "is"
          walk_at "f"
          refine x_lenT (st_of h1) ?_
          walk_at "x"
          refine x_lenT (st_of h2) ?_
          walk_at "x"
          rw [hl, decide_eq_true rfl]
          walk_at "f"
          exact ⟨a, b, xs, ys, rfl, hab, hl, hz, he, q⟩


end
end Br
namespace Br
open PySem PySem.Spec PyProof.Rows L2
local macro_rules | `(tactic| walk_at "x1") => `(tactic| (with_reducible first
  | refine Br.x_seq ?_ | refine Br.x_set ?_ | refine Br.x_asg ?_ | refine Br.x_next ?_ | refine Br.x_ret ?_ | refine Br.x_retN ?_ | refine Br.x_drop ?_ | refine Br.x_if ?_ | refine Br.x_brk ?_ | refine Br.x_cont ?_
  | refine Br.x_c ?_ | refine Br.x_op ?_ | refine Br.x_un ?_ | refine Br.x_I0 ?_ | refine Br.x_U ?_ | refine Br.x_EqI ?_ | refine Br.x_NeI ?_ | refine Br.x_EqB ?_ | refine Br.x_iN ?_ | refine Br.x_int1 ?_ | refine Br.x_min2 ?_ | refine Br.x_max2 ?_ | refine Br.x_nN ?_ | refine Br.x_ifE ?_
  | refine Br.x_test (b := ()) ?_ | refine Br.x_tB ?_ | refine Br.x_bl ?_ | refine Br.x_and ?_ | refine Br.x_or ?_ | refine Br.x_not ?_ | refine Br.x_andV ?_ | refine Br.x_orV ?_ | refine Br.x_notV ?_ | refine Br.x_blP ?_
  | refine Br.x_nil ?_ | refine Br.x_cons ?_ | refine Br.x_call ?_ | refine Br.x_CB ?_ | refine Br.x_BM ?_ | refine Br.x_tup ?_ | refine Br.x_lst ?_ | refine Br.x_chain ?_ | refine Br.x_par ?_ | refine Br.x_gSub ?_ | refine Br.x_gName ?_ | refine Br.x_fld ?_ | refine Br.x_fldS ?_ | refine Br.x_match ?_ | refine Br.x_else ?_ | refine Br.x_noCase ?_))
local macro_rules | `(tactic| walk_at "xv") => `(tactic| ((with_reducible refine' Br.x_var ?hvar ?_); (case hvar => rfl)))
local macro_rules | `(tactic| walk_at "xd") => `(tactic| (dsimp only [List.set_cons_zero, List.set_cons_succ, List.cons_append, List.nil_append, List.append_nil]))
local macro_rules | `(tactic| walk_at "xi") => `(tactic| ((with_reducible refine Br.x_I ?hside ?_); (case hside => first | exact Br.mul_r (by decide) (by decide) | exact Br.mul_l (by decide) (by decide) | exact Br.mul_l (by omega) (by omega) | exact Br.mul_r (by omega) (by omega) | (show (0 : Int) < _; first | decide | omega) | exact ⟨by decide, by decide⟩ | exact ⟨by omega, by omega⟩ | exact ⟨by decide, by decide, by decide⟩)))
local macro_rules | `(tactic| walk_at "x") => `(tactic| (repeat (first | walk_at "x1" | walk_at "xv" | walk_at "xi" | walk_at "xd")))
local macro_rules | `(tactic| walk_at "start") => `(tactic| (simp only [L2.start, List.map_cons, List.map_nil, List.length_cons, List.length_nil, Nat.reduceAdd, Nat.reduceSub, List.replicate, List.cons_append, List.nil_append, List.append_nil]))
local macro_rules | `(tactic| walk_at "isi") => `(tactic| first
  | refine Br.x_isi (b := true) (.base (.int _)) (by decide +kernel) ?_ | refine Br.x_isi (b := false) (.base (.int _)) (by decide +kernel) ?_
  | refine Br.x_isi (b := true) (.base (.bl _)) (by decide +kernel) ?_ | refine Br.x_isi (b := false) (.base (.bl _)) (by decide +kernel) ?_
  | refine Br.x_isi (b := false) (.base .non) (by decide +kernel) ?_
  | refine Br.x_isi (b := true) (.base (.str _)) (by decide +kernel) ?_ | refine Br.x_isi (b := false) (.base (.str _)) (by decide +kernel) ?_
  | refine Br.x_isi (b := true) (.base (.tup (by assumption))) (by decide +kernel) ?_ | refine Br.x_isi (b := false) (.base (.tup (by assumption))) (by decide +kernel) ?_
  | refine Br.x_isi (b := true) (.base (.lst (by assumption))) (by decide +kernel) ?_ | refine Br.x_isi (b := false) (.base (.lst (by assumption))) (by decide +kernel) ?_)
local macro_rules | `(tactic| walk_at "f") => `(tactic| (refine L2.iteF ?_; walk_at "x"))
local macro_rules | `(tactic| walk_at "t") => `(tactic| (refine L2.iteT ?_; walk_at "x"))
local macro_rules | `(tactic| walk_at "is") => `(tactic| (walk_at "isi"; walk_at "x"))
local macro_rules | `(tactic| walk_at "xb") => `(tactic| (simp only [Br.bindS, List.set_cons_zero, List.set_cons_succ]; walk_at "x"))

section
variable {P : Program} {w : World} {K : PySem.W.Frag} {mg : Str → Option Value} {base : Heap}

open Br Br.F
/-- making an instance within a try -/
def tMakeX (C : Addr) (sp : Sp) (E : L2.St → XK) (t : TA) : TE := fun σ H Q => t σ H fun vs H1 => ∀ x dx, H1 x = Option.none → H1 dx = Option.none → dx ≠ x →
  sp (V.ref x :: vs) (upd (upd H1 dx (.own x)) x (.ins C dx [])) (fun v H2 => v = .non ∧ Q (.ref x) H2) (E σ)
theorem x_makeX {C : Addr} {sp : Sp} {E : L2.St → XK} {t : TA} {σ : L2.St} {H : Hp} {Q : VK} (h : t σ H fun vs H1 => ∀ x dx, H1 x = Option.none → H1 dx = Option.none → dx ≠ x →
  sp (V.ref x :: vs) (upd (upd H1 dx (.own x)) x (.ins C dx [])) (fun v H2 => v = .non ∧ Q (.ref x) H2) (E σ)) : tMakeX C sp E t σ H Q := h
theorem run_makeS {X : Cx} {CX : CXT} {k : Nat} {f C : Addr} {fd : FuncData} {ps : List Str} {sp : Sp} {E : L2.St → XK} {pins : List (Addr × Obj)} {σ : L2.St} {H : Hp} {s : Shared} {Q : VK} {us : List Value} {vs : List V} (M : Mk X.K C f) (F : FnOk X.prog X.w X.K X.mg X.base CX k f fd ps sp) (hr : Room (k + 1) X.A) (hb : Binds X.K fd ps []) (hx : PassesAt CX X σ (E σ))
    (I : Inv X pins σ H s) (r : Vals vs us)
    (h : ∀ x dx, H x = none → H dx = none → dx ≠ x → sp (.ref x :: vs) (upd (upd H dx (.own x)) x (.ins C dx [])) (fun v H2 => v = .non ∧ Q (.ref x) H2) (E σ)) :
    wpAny (model X.prog X.w) X.A (call (.ref C) us) (EP X pins σ Q) X.xe s := by
  have hq := h (s.heap.objs.size + 1) s.heap.objs.size (I.hok.fresh (Nat.le_succ _)) (I.hok.fresh (Nat.le_refl _)) (Nat.ne_of_lt (Nat.lt_succ_self _))
  have I2 := Inv.made (C := C) I
  have r2 : Vals (V.ref (s.heap.objs.size + 1) :: vs) (Value.ref (s.heap.objs.size + 1) :: us) := .cons rfl r
  have hl : (Value.ref (s.heap.objs.size + 1) :: us).length = ps.length := by
    have e := r2.length
    rw [F.len _ _ _ _ hq] at e
    exact e.symm
  have b := hb _ (Value.ref (s.heap.objs.size + 1) :: us) I2.kIn (by rw [List.append_nil]; exact hl)
  rw [List.append_nil] at b
  refine wpAny_call (make_map (f := f) I.kIn M.makes M.init (beq_iff_eq.mp M.fn) (codeAny_mono (F.run _ X.stack _ _ ⟨Value.ref (s.heap.objs.size + 1) :: us, []⟩ (Value.ref (s.heap.objs.size + 1) :: us) _ _ (E σ) (hr.make C us [])
    (I2.env0.make C us []) b r2 hq) fun r s' hq' => ?_))
  cases r with
  | error e => exact hx pins _ _ e s' I2 hq'
  | ok fl =>
    cases fl with
    | ret u =>
      obtain ⟨v, H', I3, rv, ev, q3⟩ := I2.after hq'
      subst ev
      exact ⟨rv, ⟨V.ref (s.heap.objs.size + 1), H', I3, rfl, q3⟩⟩
    | next => exact False.elim hq'
    | brk => exact False.elim hq'
    | cont => exact False.elim hq'
theorem pe_makeX {X : Cx} {CX : CXT} {k : Nat} {f C : Addr} {fd : FuncData} {ps : List Str} {sp : Sp} {E : L2.St → XK} {x : Str} {p pos : Pos} {e : Expr} {es : List Expr} {t : TA} (M : Mk X.K C f) (F : FnOk X.prog X.w X.K X.mg X.base CX k f fd ps sp) (hr : Room (k + 1) X.A) (hg : Gl X x) (hm : X.mg x = some (.ref C)) (hb : Binds X.K fd ps []) (hx : ∀ σ, PassesAt CX X σ (E σ))
    (ha : PA X (e :: es) t) (hdb : (x == ("__debug__" : Str)) = false := by decide) (he : starEach (e :: es) X.env = (false, eval e X.env) :: starEach es X.env := by rfl) (hpl : (backTo pos (starEach es X.env)).any (·.1) = false := by rfl) :
    PE X (.Call (.Name x p) (e :: es) [] pos) (tMakeX C sp E t) := by
  refine ⟨fun pins s σ H Q I h => ?_⟩
  refine wpAny_Call_Name_kw (ld_glob I hg hm ?_ hdb)
  refine PySem.W.callWith_K (h₀ := X.base) I.ok.mod.kin M.kp (thn (ha.run pos pins s σ H _ I h) fun us s1 ⟨vs, H1, I1, r, q⟩ => ⟨I1.kIn, ?_⟩) he hpl
  exact run_makeS M F hr hb (hx σ) I1 r q

/-- so deep, no list in it -/
def Sm : Nat → PyData → Prop
  | 0, _ => False
  | n + 1, .tuple es => es.length ≤ 100000 ∧ ∀ x, x ∈ es → Sm n x
  | _ + 1, .list _ => False
  | _ + 1, .dict _ => False
  | _ + 1, _ => True
theorem eqv_dat {K : PySem.W.Frag} {d : Addr} {H : Hp} : ∀ {n : Nat} {e : PyData} {v u : V}, Sm n e → DAt d H v e → DAt d H u e → Eqv K H n v u
  | 0, _, _, _, h, _, _ => h.elim
  | n + 1, .none, _, _, _, h1, h2 => by cases h1; cases h2; exact .non
  | n + 1, .bool b, _, _, _, h1, h2 => by cases h1; cases h2; exact .bl
  | n + 1, .int i, _, _, _, h1, h2 => by cases h1; cases h2; exact .int
  | n + 1, .str x, _, _, _, h1, h2 => by cases h1; cases h2; exact .str
  | n + 1, .list _, _, _, h, _, _ => h.elim
  | n + 1, .dict _, _, _, h, _, _ => h.elim
  | n + 1, .tuple es, _, _, h, h1, h2 => by
    cases h1 with
    | tup g1 s1 =>
      cases h2 with
      | tup g2 s2 =>
        have l1 := s1.len
        have l2 := s2.len
        refine Eqv.tup g1 g2 (by omega) (by have := h.1; omega) fun i x y e1 e2 => ?_
        obtain ⟨f, hf, hx⟩ := s1.get e1
        obtain ⟨f2, hf2, hy⟩ := s2.get e2
        rw [← Option.some.inj (hf.symm.trans hf2)] at hy
        exact eqv_dat (h.2 f (List.mem_of_getElem? hf)) hx hy
theorem eqv_dats {K : PySem.W.Frag} {d a b : Addr} {H : Hp} {n : Nat} {xs ys : List V} {es : List PyData} (ha : H a = some (.lst xs)) (hb : H b = some (.lst ys)) (h1 : DAts d H xs es) (h2 : DAts d H ys es) (hl : es.length ≤ 100000) (h : ∀ x, x ∈ es → Sm n x) : Eqv K H (n + 1) (.ref a) (.ref b) := by
  have l1 := h1.len
  have l2 := h2.len
  refine Eqv.lst ha hb (by omega) (by omega) fun i x y e1 e2 => ?_
  obtain ⟨f, hf, hx⟩ := h1.get e1
  obtain ⟨f2, hf2, hy⟩ := h2.get e2
  rw [← Option.some.inj (hf.symm.trans hf2)] at hy
  exact eqv_dat (h f (List.mem_of_getElem? hf)) hx hy
theorem sm_any {d p : Addr} {H : Hp} : ∀ {n : Nat} {e : PyData} {v : V}, Sm n e → DAt d H v e → DAt p H v e
  | 0, _, _, h, _ => h.elim
  | n + 1, .none, _, _, h1 => by cases h1; exact .non
  | n + 1, .bool b, _, _, h1 => by cases h1; exact .bl b
  | n + 1, .int i, _, _, h1 => by cases h1; exact .int i
  | n + 1, .str x, _, _, h1 => by cases h1; exact .str x
  | n + 1, .list _, _, h, _ => h.elim
  | n + 1, .dict _, _, h, _ => h.elim
  | n + 1, .tuple es, _, h, h1 => by
    cases h1 with
    | tup g1 s1 =>
      exact .tup g1 (DAts.of s1.len fun i x e e1 e2 => by
        obtain ⟨f, hf, hx⟩ := s1.get e1
        rw [hf] at e2
        cases e2
        exact sm_any (h.2 e (List.mem_of_getElem? hf)) hx)
theorem sms_any {d p : Addr} {H : Hp} {n : Nat} {es : List PyData} {xs : List V} (h : ∀ x, x ∈ es → Sm n x) (s1 : DAts d H xs es) : DAts p H xs es :=
  DAts.of s1.len fun i x e e1 e2 => by
    obtain ⟨f, hf, hx⟩ := s1.get e1
    rw [hf] at e2
    cases e2
    exact sm_any (h e (List.mem_of_getElem? hf)) hx
theorem Sm.ofB {n : Nat} {b : Int} {e : PyData} (h : isBD b e = true) : Sm (n + 1) e := by
  obtain ⟨j, rfl, _⟩ := isBD_int h
  trivial
theorem sm_tup {n : Nat} {es : List PyData} (hl : es.length ≤ 100000) (h : ∀ x, x ∈ es → Sm n x) : Sm (n + 1) (.tuple es) := ⟨hl, h⟩
theorem sm_fact {n : Nat} {t c i : Int} {e : PyData} (h : factD t c i e = true) : Sm (n + 2) e := by
  unfold factD at h
  split at h
  · rename_i w x
    have hx : Sm (n + 1) x := by
      split at h
      · exact .ofB ((Bool.and_eq_true _ _ ▸ h).1)
      · split at h
        · exact .ofB h
        · cases h
    exact sm_tup (by show 2 ≤ 100000; decide) (al_cons (P := Sm (n + 1)) (by trivial) (al_cons hx al_nil))
  · cases h
theorem sm_facts {n : Nat} {t c i : Int} {e : PyData} (h : factsD t c i e = true) : Sm (n + 3) e := by
  unfold factsD at h
  split at h
  · rename_i fs
    rw [Bool.and_eq_true, decide_eq_true_iff, List.all_eq_true] at h
    exact sm_tup (by omega) fun x hx => sm_fact (h.2 x hx)
  · cases h
theorem sm_tab {n : Nat} {m : Int} {e : PyData} (h : tabXD m e = true) (hl : ∀ rs, e = .tuple rs → rs.length ≤ 1000) : Sm (n + 3) e := by
  unfold tabXD at h
  split at h
  · rename_i rs
    have hl := hl rs rfl
    rw [Bool.and_eq_true, List.all_eq_true] at h
    refine sm_tup (by omega) fun x hx => ?_
    have h2 := h.2 x hx
    unfold rowXD at h2
    split at h2
    · rename_i es
      rw [Bool.and_eq_true, decide_eq_true_iff, List.all_eq_true] at h2
      exact sm_tup (by omega) fun y hy => .ofB (h2.2 y hy)
    · cases h2
  · cases h
theorem sm_step {m c i : Int} {e : PyData} (h : stepD m c i e = true) (hw : WdE e) : Sm 4 e := by
  unfold stepD at h
  split at h
  · rename_i w x y
    have hxy : Sm 3 x ∧ Sm 3 y := by
      split at h
      · rw [Bool.and_eq_true, Bool.and_eq_true] at h
        exact ⟨.ofB h.1, .ofB h.2.1⟩
      · split at h
        · rw [Bool.and_eq_true, Bool.and_eq_true] at h
          exact ⟨.ofB h.1, .ofB h.2.1⟩
        · cases h
    exact sm_tup (by show 3 ≤ 100000; decide) (al_cons (P := Sm 3) (by trivial) (al_cons hxy.1 (al_cons hxy.2 al_nil)))
  · rename_i w x k fs
    split at h
    · rw [Bool.and_eq_true, Bool.and_eq_true] at h
      exact sm_tup (by show 4 ≤ 100000; decide) (al_cons (P := Sm 3) (by trivial) (al_cons (.ofB h.1) (al_cons (.ofB h.2.1) (al_cons (sm_facts h.2.2) al_nil))))
    · cases h
  · rename_i w x s tb y z
    split at h
    · obtain ⟨g1, g2⟩ := Bool.and_eq_true_iff.mp h
      obtain ⟨g2, h5⟩ := Bool.and_eq_true_iff.mp g2
      unfold threeD at g1
      unfold signD at g2
      obtain ⟨h4, _⟩ := Bool.and_eq_true_iff.mp g2
      obtain ⟨g1, _⟩ := Bool.and_eq_true_iff.mp g1
      obtain ⟨h1, g1⟩ := Bool.and_eq_true_iff.mp g1
      obtain ⟨h2, h3⟩ := Bool.and_eq_true_iff.mp g1
      exact sm_tup (by show 6 ≤ 100000; decide) (al_cons (P := Sm 3) (by trivial) (al_cons (.ofB h1) (al_cons (.ofB h4) (al_cons (sm_tab h5 fun rs e => hw _ rfl tb (by simp) rs e) (al_cons (.ofB h2) (al_cons (.ofB h3) al_nil))))))
    · cases h
  · cases h

def sp_law_kept (C : Addr) (K : PySem.W.Frag) : Sp := fun vs H Q _ => ∃ (d D p dx L' L : Addr) (m c i : Nat) (xs ys : List V) (es : List PyData), vs = [.ref p, .ref D, .ref L] ∧ H p = some (.ins C dx (progF m c i L')) ∧ PC K C ∧ H L' = some (.lst xs) ∧ H D = some (.dK (mdlX (.int (m : Int)) (.int (c : Int)) (.int (i : Int)) (.ref L))) ∧ H L = some (.lst ys) ∧ DAts d H xs es ∧ DAts d H ys es ∧ es.length ≤ 20000 ∧ (∀ x, x ∈ es → Sm 4 x) ∧ Q (.bl true) H
theorem ok_law_kept (T : Txt K mg) : FnOk P w K mg base CX0 14 T.a_law_kept T.fd_law_kept ["program", "model", "steps"] (sp_law_kept T.C_Program K) := by
  refine T.F_law_kept.ok sc_law_kept (fun vs H Q E h => ?_) (fun cdv A outer s H vs Q E hr h => ?_)
  · obtain ⟨d, D, p, dx, L', L, m, c, i, xs, ys, es, rfl, _⟩ := h
    rfl
  · obtain ⟨d, D, p, dx, L', L, m, c, i, xs, ys, es, rfl, hp, hC, hL', hM, hL, hx, hy, hl, hs, q⟩ := h
    have l1 := hx.len
    have l2 := hy.len
    refine ⟨_, (pss_cons (ps_if (PW.pt (pw_or (pt_not (pt_val (pe_call (ok_law_equal T 6) hr (by rfl) T.g_law_equal T.F_law_equal.kp T.b_law_equal .nil pass0 (pa_cons (pe_fld (pv 0) rfl) (pa_cons (pe_dget (hu_of hr) (pv 1) pe_str (fun _ _ => rfl)) pa_nil))))) (pw_or1 (pt_not (pt_val (pe_call (ok_law_equal T 6) hr (by rfl) T.g_law_equal T.F_law_equal.kp T.b_law_equal .nil pass0 (pa_cons (pe_fld (pv 0) rfl) (pa_cons (pe_dget (hu_of hr) (pv 1) pe_str (fun _ _ => rfl)) pa_nil))))))))
      (pss_one (ps_ret pe_bl))
      pss_nil)
      (pss_cons (ps_if (PW.pt (pw_or (pt_not (pt_val (pe_call (ok_law_equal T 6) hr (by rfl) T.g_law_equal T.F_law_equal.kp T.b_law_equal .nil pass0 (pa_cons (pe_fld (pv 0) rfl) (pa_cons (pe_dget (hu_of hr) (pv 1) pe_str (fun _ _ => rfl)) pa_nil))))) (pw_or1 (pt_not (pt_val (pe_call (ok_law_equal T 6) hr (by rfl) T.g_law_equal T.F_law_equal.kp T.b_law_equal .nil pass0 (pa_cons (pe_fld (pv 0) rfl) (pa_cons (pv 2) pa_nil))))))))
      (pss_one (ps_ret pe_bl))
      pss_nil)
      (pss_one (ps_ret (pe_call (ok_law_equal T 6) hr (by rfl) T.g_law_equal T.F_law_equal.kp T.b_law_equal .nil pass0 (pa_cons (pe_callB (id := "len") (cr_lenM T.me_Program___len (ok_Program___len T) (hr.mono (by decide)) T.b_Program___len .nil pass0) (by rfl) T.m_len PySem.boot_len (pa_cons (pv 0) pa_nil)) (pa_cons (pe_callB (id := "len") (r := rLen K) cr_len (by rfl) T.m_len PySem.boot_len (pa_cons (pv 2) pa_nil)) pa_nil))))))), ?_⟩
    walk_at "start"
    walk_at "x"
    refine x_fldR hp hC.cl hC.m progF_m ?_
    walk_at "x"
    refine x_dgVC rfl hM mdlX_m ?_
    walk_at "x"
    refine ⟨_, _, rfl, Eqv.int, ?_⟩
    walk_at "x"
    walk_at "f"
    refine x_fldR hp hC.cl hC.c progF_c ?_
    walk_at "x"
    refine x_dgVC rfl hM mdlX_c ?_
    walk_at "x"
    refine ⟨_, _, rfl, Eqv.int, ?_⟩
    walk_at "x"
    walk_at "f"
    refine x_fldR hp hC.cl hC.i progF_i ?_
    walk_at "x"
    refine x_dgVC rfl hM mdlX_i ?_
    walk_at "x"
    refine ⟨_, _, rfl, Eqv.int, ?_⟩
    walk_at "x"
    walk_at "f"
    refine x_fldR hp hC.cl hC.s progF_s ?_
    walk_at "x"
    refine ⟨_, _, rfl, (eqv_dats hL' hL hx hy (by omega) hs).mono (by decide), ?_⟩
    walk_at "x"
    walk_at "f"
    refine ⟨p, dx, _, rfl, hp, p, T.C_Program, dx, L', (m : Int), (c : Int), (i : Int), xs, rfl, hp, hC, hL', xs.length, rfl, by omega, ?_⟩
    walk_at "x"
    refine x_len (sq_of hL) ?_
    walk_at "x"
    refine ⟨_, _, rfl, ?_, q⟩
    rw [l1, l2]
    exact Eqv.int


def sp_law_asked (K : PySem.W.Frag) : Sp := fun vs H Q _ => ∃ (d D : Addr) (vm vc vi v : V) (e : PyData), vs = [.ref D] ∧ MX H d D vm vc vi v e ∧ H d ≠ none ∧ ∀ H', Same H H' → Q (.bl true) H'
theorem ok_law_asked (T : Txt K mg) : FnOk P w K mg base CX0 15 T.a_law_asked T.fd_law_asked ["model"] (sp_law_asked K) := by
  refine T.F_law_asked.ok sc_law_asked (fun vs H Q E h => ?_) (fun cdv A outer s H vs Q E hr h => ?_)
  · obtain ⟨d, D, vm, vc, vi, v, e, rfl, _⟩ := h
    rfl
  · obtain ⟨d, D, vm, vc, vi, v, e, rfl, hM, hdn, q⟩ := h
    have hC : PC K T.C_Program := ⟨T.cl_Program, T.na_Program_modulus, T.na_Program_cells, T.na_Program_inputs, T.na_Program_steps⟩
    obtain ⟨em, hom⟩ := hM.om
    obtain ⟨ec, hoc⟩ := hM.oc
    obtain ⟨ei, hoi⟩ := hM.oi
    obtain ⟨es, hes, hl, hst⟩ := hM.fm
    have hz : ∀ es, e = .list es → es.length ≤ 20000 ∧ ∀ x, x ∈ es → Sh x ∧ WdE x := fun fs h => by
      rcases hes with h2 | h2 <;> rw [h2] at h <;> cases h
      exact ⟨hl, hst⟩
    refine ⟨_, (pss_cons (ps_set (i := 1) sc_law_asked.nd rfl (.inl rfl) (pe_call (ok_law_is_program T) (hr.mono (by decide)) (by rfl) T.g_law_is_program T.F_law_is_program.kp T.b_law_is_program .nil pass0 (pa_cons (pe_dget (hu_of hr) (pv 0) pe_str (fun _ _ => rfl)) (pa_cons (pe_dget (hu_of hr) (pv 0) pe_str (fun _ _ => rfl)) (pa_cons (pe_dget (hu_of hr) (pv 0) pe_str (fun _ _ => rfl)) (pa_cons (pe_dget (hu_of hr) (pv 0) pe_str (fun _ _ => rfl)) pa_nil))))))
      (pss_cons (ps_set (i := 2) sc_law_asked.nd rfl (.inl rfl) (pe_dget (hu_of hr) (pv 0) pe_str (fun _ _ => rfl)))
      (pss_cons (ps_if (pt_val (pe_callB (id := "isinstance") (r := rIsi K) call_isi (by rfl) T.m_isinstance (by decide +kernel) (pa_cons (pv 2) (pa_cons (pe_bltn (v := .ty "list") (by rfl) T.m_list (by decide +kernel) rfl) pa_nil))))
      (pss_one (ps_set (i := 2) sc_law_asked.nd rfl (.inl rfl) (pe_callTy (T := "list") (r := rListOf K) cr_list_of (by rfl) T.m_list (by decide +kernel) (pa_cons (pv 2) pa_nil))))
      pss_nil)
      (pss_cons (ps_set (i := 3) sc_law_asked.nd rfl (.inl rfl) pe_bl)
      (pss_cons (ps_set (i := 4) sc_law_asked.nd rfl (.inl rfl) pe_non)
      (pss_cons (ps_try_as (i := 5) rfl rfl sc_law_asked.nd rfl rfl ⟨rfl, by decide, .inl T.gE_BadStep⟩ takes0 (fun W pn xe tk _ => (pss_one (ps_set (i := 4) sc_law_asked.nd rfl (.inl rfl) (pe_makeX (sp := sp_Program___init T.E_BadStep K) (E := WE W) T.mk_Program (ok_Program___init T) (hr.mono (by decide)) (by rfl) T.gc_Program T.b_Program___init (fun σ => passAt tk σ) (pa_cons (pe_dget (hu_of hr) (pv 0) pe_str (fun _ _ => rfl)) (pa_cons (pe_dget (hu_of hr) (pv 0) pe_str (fun _ _ => rfl)) (pa_cons (pe_dget (hu_of hr) (pv 0) pe_str (fun _ _ => rfl)) (pa_cons (pv 2) pa_nil))))))))
      (fun a oe cls d pn hz hf => (pss_one (ps_set (i := 3) sc_law_asked.nd rfl (.inl rfl) (pe_and (pe_not (pe_callB (id := "isinstance") (r := rIsEQ K a cls d) (call_isEQ rfl hz hf) (by rfl) T.m_isinstance (by decide +kernel) (pa_cons (pv 5) (pa_cons (pe_glob (v := .ref T.E_BadMemory) (by rfl) T.gE_BadMemory rfl) pa_nil)))) (pe_and (pe_callB (id := "isinstance") (r := rIsEQ K a cls d) (call_isEQ rfl hz hf) (by rfl) T.m_isinstance (by decide +kernel) (pa_cons (pv 5) (pa_cons (pe_glob (v := .ref T.E_BrimfulError) (by rfl) T.gE_BrimfulError rfl) pa_nil))) (pe_one (pe_callB (id := "isinstance") (r := rIsEV K a cls d) (call_isEV rfl hz hf) (by rfl) T.m_isinstance (by decide +kernel) (pa_cons (pv 5) (pa_cons (pe_bltn (v := .ty "ValueError") (by rfl) T.m_ValueError (by decide +kernel) rfl) pa_nil))))))))))
      (pss_cons (ps_if (pt_cmpR op_eq (pv 3) (pv 1) (nomark _))
      (pss_one (ps_ret pe_bl))
      pss_nil)
      (pss_cons (ps_if (pt_not (pt_val (pv 1)))
      (pss_one (ps_ret pe_bl))
      pss_nil)
      (pss_cons (ps_if (PW.pt (pw_or (pt_not (pt_val (pe_call (ok_law_equal T 6) (hr.mono (by decide)) (by rfl) T.g_law_equal T.F_law_equal.kp T.b_law_equal .nil pass0 (pa_cons (pv 2) (pa_cons (pe_dget (hu_of hr) (pv 0) pe_str (fun _ _ => rfl)) pa_nil))))) (pw_or1 (pt_not (pt_val (pe_call (ok_law_kept T) hr (by rfl) T.g_law_kept T.F_law_kept.kp T.b_law_kept .nil pass0 (pa_cons (pv 4) (pa_cons (pv 0) (pa_cons (pe_dget (hu_of hr) (pv 0) pe_str (fun _ _ => rfl)) pa_nil)))))))))
      (pss_one (ps_ret pe_bl))
      pss_nil)
      (pss_cons (ps_expr (pe_bm PySem.F.plainAttrs_list PySem.F.slot_list_append PySem.F.type_list_append mt_append (pv 2) (pa_cons (pe_tup (pa_cons pe_str (pa_cons pe_int (pa_cons pe_int pa_nil)))) pa_nil)))
      (pss_one (ps_ret (pe_call (ok_law_kept T) hr (by rfl) T.g_law_kept T.F_law_kept.kp T.b_law_kept .nil pass0 (pa_cons (pv 4) (pa_cons (pv 0) (pa_cons (pe_dget (hu_of hr) (pv 0) pe_str (fun _ _ => rfl)) pa_nil)))))))))))))))), ?_⟩
    walk_at "start"
    walk_at "x"
    refine x_dgVC rfl hM.dk mdlX_m ?_
    walk_at "x"
    refine x_dgVC rfl hM.dk mdlX_c ?_
    walk_at "x"
    refine x_dgVC rfl hM.dk mdlX_i ?_
    walk_at "x"
    refine x_dgVC rfl hM.dk mdlX_s ?_
    walk_at "x"
    refine ⟨d, vm, vc, vi, v, e, rfl, hom.odd, hoc.odd, hoi.odd, hM.st, hz, fun good H1 s1 hg => ?_⟩
    have hM1 := hM.same s1
    walk_at "x"
    refine x_dgVC rfl hM1.dk mdlX_s ?_
    walk_at "x"
    rcases hes with rfl | rfl
    · have hv1 := hM1.st
      generalize hvv : v = v0 at hv1
      cases hv1 with
      | @lst L xs _ hd hL hs =>
        subst hvv
        walk_at "is"
        walk_at "t"
        refine x_listL (sq_of hL) fun L0 hL0 => ?_
        have s2 := same_upd (o := .lst xs) hL0
        have e2 : (upd H1 L0 (.lst xs)) L0 = some (.lst xs) := upd_same
        have hd0 : L0 ≠ d ∨ True := .inr trivial
        generalize upd H1 L0 (.lst xs) = H2 at s2 e2
        have hM2 := hM1.same s2
        have hs2 := DAts.same s2 _ hs
        have hL2 := s2 _ _ hL
        have hLL : L0 ≠ L := fun z => by rw [z, hL] at hL0; cases hL0
        walk_at "x"
        refine x_makeX ?_
        walk_at "x"
        refine x_dgVC rfl hM2.dk mdlX_m ?_
        walk_at "x"
        refine x_dgVC rfl hM2.dk mdlX_c ?_
        walk_at "x"
        refine x_dgVC rfl hM2.dk mdlX_i ?_
        walk_at "x"
        intro p dx hp hdx hpd
        have s3 : Same H2 (upd (upd H2 dx (.own p)) p (.ins T.C_Program dx [])) := (same_upd hdx).trans (same_upd (by rw [upd_ne hpd.symm]; exact hp))
        have e3 : (upd (upd H2 dx (.own p)) p (.ins T.C_Program dx [])) p = some (.ins T.C_Program dx []) := upd_same
        generalize upd (upd H2 dx (.own p)) p (.ins T.C_Program dx []) = H3 at s3 e3
        have hM3 := hM2.same s3
        have hL0d : L0 ≠ d := fun z => sn s1 hdn (by rw [← z]; exact hL0)
        have e23 := s3 _ _ e2
        have hs3 := DAts.same s3 _ hs2
        have hL3 := s3 _ _ hL2
        refine ⟨d, p, T.C_Program, dx, vm, vc, vi, .ref L0, .list es, rfl, e3, hC, hM3.om.choose_spec.odd, hM3.oc.choose_spec.odd, hM3.oi.choose_spec.odd, .lst hL0d e23 hs3, hz, (fun no H4 s4 => ?_), fun m c i fs hk L' ys H4 hys hL'n kp e4 eL' => ⟨rfl, ?_⟩⟩
        · obtain rfl : good = false := by cases good with
            | false => rfl
            | true => exact absurd (hg.mp rfl) no
          refine ⟨true, PySem.W.exm_ref T.bE_BadStep T.dE_BadStep T.tE_BadStep T.sE_BadStep_BadStep, (fun _ a ha => ?_), (fun z => nomatch z)⟩
          walk_at "x"
          refine ⟨_, _, false, rfl, rfl, T.cE_BadStep, rfl, kit_ref T.dE_BadMemory T.tE_BadMemory T.sE_BadStep_BadMemory T.sE_BadMemory_BadMemory, ?_⟩
          walk_at "x"
          walk_at "t"
          refine ⟨_, _, true, rfl, rfl, T.cE_BadStep, rfl, kit_ref T.dE_BrimfulError T.tE_BrimfulError T.sE_BadStep_BrimfulError T.sE_BrimfulError_BrimfulError, ?_⟩
          walk_at "x"
          walk_at "t"
          refine ⟨_, "ValueError", true, rfl, rfl, T.cE_BadStep, rfl, kit_val T.vE_BadStep, ?_⟩
          walk_at "x"
          refine x_ite (fun h => absurd h (by decide)) (fun _ => ?_)
          walk_at "x"
          walk_at "t"
          exact q _ (((s1.trans s2).trans s3).trans s4)
        · obtain rfl : good = true := hg.mpr ⟨m, c, i, fs, hk⟩
          obtain ⟨⟨rfl, rfl, rfl, _⟩, e5, hS⟩ := hk
          cases e5
          have hsm : ∀ x, x ∈ es → Sm 4 x := fun x hx => sm_step (hS.1 x hx) (hst x hx).2
          have dk4 := kp _ _ hM3.dk (ne_of hM3.dk e3 (by intro z; cases z))
          have e24 := kp _ _ e23 (ne_of e23 e3 (by intro z; cases z))
          have hL4 := kp _ _ hL3 (ne_of hL3 e3 (by intro z; cases z))
          have mv : ∀ {zs : List V}, DAts d H3 zs es → DAts d H4 zs es := fun h => DAts.mv (fun b xs hb => kp _ _ hb (ne_of hb e3 (by intro z; cases z))) (fun b xs hb => kp _ _ hb (ne_of hb e3 (by intro z; cases z))) _ h
          have hs4 := mv hs3
          have hys4 := mv hys
          walk_at "x"
          refine x_ite (fun h => absurd h (by decide)) (fun _ => ?_)
          walk_at "x"
          walk_at "f"
          refine x_dgVC rfl dk4 mdlX_s ?_
          walk_at "x"
          refine ⟨_, _, rfl, (eqv_dats e24 hL4 hs4 hs4 (by omega) hsm).mono (by decide), ?_⟩
          walk_at "x"
          walk_at "f"
          refine x_dgVC rfl dk4 mdlX_s ?_
          walk_at "x"
          refine ⟨d, D, p, dx, L', L, m, c, i, ys, xs, es, rfl, e4, hC, eL', dk4, hL4, hys4, hs4, hl, hsm, ?_⟩
          walk_at "x"
          walk_at "f"
          refine x_tyL e24 ?_
          walk_at "x"
          refine ⟨by show 3 ≤ sizeLine; decide, fun t ht => ?_⟩
          have s5 := same_upd (o := .tup [V.str "swap", .int 0, .int 0]) ht
          generalize upd H4 t (.tup [V.str "swap", .int 0, .int 0]) = H5 at s5
          have e25 := s5 _ _ e24
          have hxl := hs.len
          walk_at "x"
          refine x_app e25 (by omega) ?_
          walk_at "x"
          have nL : L ≠ L0 := fun z => hLL z.symm
          have nL' : L' ≠ L0 := fun z => by rw [z, e23] at hL'n; cases hL'n
          have k6 : Keep L0 H5 (upd H5 L0 (.lst (xs ++ [.ref t]))) := fun b o e h => by rw [upd_ne h]; exact e
          have k60 : ∀ b o, H b = some o → b ≠ L0 := fun b o e z => by
            have := s1 _ _ e
            rw [z, hL0] at this
            cases this
          have fin : ∀ H6, Keep L0 H5 H6 → Same H H6 := fun H6 k b o e => k _ _ (s5 _ _ (kp _ _ (((s1.trans s2).trans s3) _ _ e) (fun z => by
            have := (s1.trans s2) _ _ e
            rw [z, hp] at this
            cases this))) (k60 b o e)
          have k6s := fin _ k6
          generalize upd H5 L0 (.lst (xs ++ [.ref t])) = H6 at k6 k6s
          have dk6 := k6 _ _ (s5 _ _ dk4) (ne_of (s5 _ _ dk4) e25 (by intro z; cases z))
          have dz : ∀ {zs : List V}, DAts d H4 zs es → DAts d H6 zs es := fun h => by
            have h5 := DAts.same s5 _ h
            exact DAts.keep2 ⟨_, e25⟩ k6 _ (sms_any hsm h5) h5
          refine x_dgVC rfl dk6 mdlX_s ?_
          walk_at "x"
          exact ⟨d, D, p, dx, L', L, m, c, i, ys, xs, es, rfl, k6 _ _ (s5 _ _ e4) (ne_of (s5 _ _ e4) e25 (by intro z; cases z)), hC, k6 _ _ (s5 _ _ eL') nL', dk6, k6 _ _ (s5 _ _ hL4) nL, dz hys4, dz hs4, hl, hsm, q _ k6s⟩
    · have hv1 := hM1.st
      generalize hvv : v = v0 at hv1
      cases hv1 with
      | @tup L xs _ hL hs =>
        subst hvv
        walk_at "is"
        walk_at "f"
        refine x_makeX ?_
        walk_at "x"
        refine x_dgVC rfl hM1.dk mdlX_m ?_
        walk_at "x"
        refine x_dgVC rfl hM1.dk mdlX_c ?_
        walk_at "x"
        refine x_dgVC rfl hM1.dk mdlX_i ?_
        walk_at "x"
        intro p dx hp hdx hpd
        have s3 : Same H1 (upd (upd H1 dx (.own p)) p (.ins T.C_Program dx [])) := (same_upd hdx).trans (same_upd (by rw [upd_ne hpd.symm]; exact hp))
        have e3 : (upd (upd H1 dx (.own p)) p (.ins T.C_Program dx [])) p = some (.ins T.C_Program dx []) := upd_same
        generalize upd (upd H1 dx (.own p)) p (.ins T.C_Program dx []) = H3 at s3 e3
        have hM3 := hM1.same s3
        have no : ¬ ∃ m c i fs, MadeOk vm vc vi (.tuple es) m c i fs := fun ⟨_, _, _, _, _, e, _⟩ => nomatch e
        obtain rfl : good = false := by cases good with
          | false => rfl
          | true => exact absurd (hg.mp rfl) no
        refine ⟨d, p, T.C_Program, dx, vm, vc, vi, .ref L, .tuple es, rfl, e3, hC, hM3.om.choose_spec.odd, hM3.oc.choose_spec.odd, hM3.oi.choose_spec.odd, hM3.st, hz, (fun _ H4 s4 => ?_), fun m c i fs hk => absurd ⟨m, c, i, fs, hk⟩ no⟩
        · skip
          refine ⟨true, PySem.W.exm_ref T.bE_BadStep T.dE_BadStep T.tE_BadStep T.sE_BadStep_BadStep, (fun _ a ha => ?_), (fun z => nomatch z)⟩
          walk_at "x"
          refine ⟨_, _, false, rfl, rfl, T.cE_BadStep, rfl, kit_ref T.dE_BadMemory T.tE_BadMemory T.sE_BadStep_BadMemory T.sE_BadMemory_BadMemory, ?_⟩
          walk_at "x"
          walk_at "t"
          refine ⟨_, _, true, rfl, rfl, T.cE_BadStep, rfl, kit_ref T.dE_BrimfulError T.tE_BrimfulError T.sE_BadStep_BrimfulError T.sE_BrimfulError_BrimfulError, ?_⟩
          walk_at "x"
          walk_at "t"
          refine ⟨_, "ValueError", true, rfl, rfl, T.cE_BadStep, rfl, kit_val T.vE_BadStep, ?_⟩
          walk_at "x"
          refine x_ite (fun h => absurd h (by decide)) (fun _ => ?_)
          walk_at "x"
          walk_at "t"
          exact q _ ((s1.trans s3).trans s4)


end
end Br
namespace Br
open PySem PySem.Spec PyProof.Rows L2
local macro_rules | `(tactic| walk_at "x1") => `(tactic| (with_reducible first
  | refine Br.x_seq ?_ | refine Br.x_set ?_ | refine Br.x_asg ?_ | refine Br.x_next ?_ | refine Br.x_ret ?_ | refine Br.x_retN ?_ | refine Br.x_drop ?_ | refine Br.x_if ?_ | refine Br.x_brk ?_ | refine Br.x_cont ?_
  | refine Br.x_c ?_ | refine Br.x_op ?_ | refine Br.x_un ?_ | refine Br.x_I0 ?_ | refine Br.x_U ?_ | refine Br.x_EqI ?_ | refine Br.x_NeI ?_ | refine Br.x_EqB ?_ | refine Br.x_iN ?_ | refine Br.x_int1 ?_ | refine Br.x_min2 ?_ | refine Br.x_max2 ?_ | refine Br.x_nN ?_ | refine Br.x_ifE ?_
  | refine Br.x_test (b := ()) ?_ | refine Br.x_tB ?_ | refine Br.x_bl ?_ | refine Br.x_and ?_ | refine Br.x_or ?_ | refine Br.x_not ?_ | refine Br.x_andV ?_ | refine Br.x_orV ?_ | refine Br.x_notV ?_ | refine Br.x_blP ?_
  | refine Br.x_nil ?_ | refine Br.x_cons ?_ | refine Br.x_call ?_ | refine Br.x_CB ?_ | refine Br.x_BM ?_ | refine Br.x_tup ?_ | refine Br.x_lst ?_ | refine Br.x_chain ?_ | refine Br.x_par ?_ | refine Br.x_gSub ?_ | refine Br.x_gName ?_ | refine Br.x_fld ?_ | refine Br.x_fldS ?_ | refine Br.x_match ?_ | refine Br.x_else ?_ | refine Br.x_noCase ?_))
local macro_rules | `(tactic| walk_at "xv") => `(tactic| ((with_reducible refine' Br.x_var ?hvar ?_); (case hvar => rfl)))
local macro_rules | `(tactic| walk_at "xd") => `(tactic| (dsimp only [List.set_cons_zero, List.set_cons_succ, List.cons_append, List.nil_append, List.append_nil]))
local macro_rules | `(tactic| walk_at "xi") => `(tactic| ((with_reducible refine Br.x_I ?hside ?_); (case hside => first | exact Br.mul_r (by decide) (by decide) | exact Br.mul_l (by decide) (by decide) | exact Br.mul_l (by omega) (by omega) | exact Br.mul_r (by omega) (by omega) | (show (0 : Int) < _; first | decide | omega) | exact ⟨by decide, by decide⟩ | exact ⟨by omega, by omega⟩ | exact ⟨by decide, by decide, by decide⟩)))
local macro_rules | `(tactic| walk_at "x") => `(tactic| (repeat (first | walk_at "x1" | walk_at "xv" | walk_at "xi" | walk_at "xd")))
local macro_rules | `(tactic| walk_at "start") => `(tactic| (simp only [L2.start, List.map_cons, List.map_nil, List.length_cons, List.length_nil, Nat.reduceAdd, Nat.reduceSub, List.replicate, List.cons_append, List.nil_append, List.append_nil]))
local macro_rules | `(tactic| walk_at "isi") => `(tactic| first
  | refine Br.x_isi (b := true) (.base (.int _)) (by decide +kernel) ?_ | refine Br.x_isi (b := false) (.base (.int _)) (by decide +kernel) ?_
  | refine Br.x_isi (b := true) (.base (.bl _)) (by decide +kernel) ?_ | refine Br.x_isi (b := false) (.base (.bl _)) (by decide +kernel) ?_
  | refine Br.x_isi (b := false) (.base .non) (by decide +kernel) ?_
  | refine Br.x_isi (b := true) (.base (.str _)) (by decide +kernel) ?_ | refine Br.x_isi (b := false) (.base (.str _)) (by decide +kernel) ?_
  | refine Br.x_isi (b := true) (.base (.tup (by assumption))) (by decide +kernel) ?_ | refine Br.x_isi (b := false) (.base (.tup (by assumption))) (by decide +kernel) ?_
  | refine Br.x_isi (b := true) (.base (.lst (by assumption))) (by decide +kernel) ?_ | refine Br.x_isi (b := false) (.base (.lst (by assumption))) (by decide +kernel) ?_)
local macro_rules | `(tactic| walk_at "f") => `(tactic| (refine L2.iteF ?_; walk_at "x"))
local macro_rules | `(tactic| walk_at "t") => `(tactic| (refine L2.iteT ?_; walk_at "x"))
local macro_rules | `(tactic| walk_at "is") => `(tactic| (walk_at "isi"; walk_at "x"))
local macro_rules | `(tactic| walk_at "xb") => `(tactic| (simp only [Br.bindS, List.set_cons_zero, List.set_cons_succ]; walk_at "x"))

section
variable {P : Program} {w : World} {K : PySem.W.Frag} {mg : Str → Option Value} {base : Heap}

open Br.F
theorem MX.dr {H : Hp} {d n D : Addr} {vm vc vi v : V} {e : PyData} (h : MX H d D vm vc vi v e) (hD : Dr H d n) : D ≠ d ∧ D ≠ n := dk_ne hD h.dk
theorem stl_list {es : List PyData} (hl : es.length ≤ 20000) (h : ∀ x, x ∈ es → St x) : StL (.list es) := ⟨es, .inl rfl, hl, h⟩

def sp_law (K : PySem.W.Frag) : Sp := fun vs H Q _ => ∃ (a : Addr) (ns : List Int), vs = [.ref a] ∧ SqL K H a (ns.map V.int) ∧ ns.length ≤ 63 ∧ ∀ H', Q (.bl true) H'
theorem ok_law (T : Txt K mg) : FnOk P w K mg base CX0 16 T.a_law T.fd_law ["script"] (sp_law K) := by
  refine T.F_law.ok sc_law (fun vs H Q E h => ?_) (fun cdv A outer s H vs Q E hr h => ?_)
  · obtain ⟨a, ns, rfl, _⟩ := h
    rfl
  · obtain ⟨a, ns, rfl, hS, hl, q⟩ := h
    refine ⟨_, (pss_cons (ps_set (i := 1) sc_law.nd rfl (.inl rfl) (pe_lst (pa_cons (pe_call (ok_law_numbers T) (hr.mono (by decide)) (by rfl) T.g_law_numbers T.F_law_numbers.kp T.b_law_numbers .nil pass0 (pa_cons (pv 0) pa_nil)) (pa_cons pe_int pa_nil))))
      (pss_cons (ps_for PassesOwn.never rfl (pi_range1 (by rfl) T.m_range (pa_cons pe_int pa_nil)) (pg_name (i := 2) sc_law.nd rfl (Or.inl rfl))
      (pss_cons (ps_set (i := 3) sc_law.nd rfl (.inl rfl) (pe_call (ok_law_program T) (hr.mono (by decide)) (by rfl) T.g_law_program T.F_law_program.kp T.b_law_program .nil pass0 (pa_cons (pv 1) (pa_cons pe_int pa_nil))))
      (Evl.pss_cut (ps_if (pt_cmpR op_gt (pe_op op_mod (pe_call (ok_law_draw T) (hr.mono (by decide)) (by rfl) T.g_law_draw T.F_law_draw.kp T.b_law_draw .nil pass0 (pa_cons (pv 1) pa_nil)) pe_int) pe_int (nomark _))
      (pss_one (ps_expr (pe_call (ok_law_spoil T) (hr.mono (by decide)) (by rfl) T.g_law_spoil T.F_law_spoil.kp T.b_law_spoil .nil pass0 (pa_cons (pv 1) (pa_cons (pv 3) pa_nil)))))
      pss_nil)
      (Evl.pss_cut (ps_if (PW.pt (pw_and (pt_cmpR op_eq (pe_op op_mod (pe_call (ok_law_draw T) (hr.mono (by decide)) (by rfl) T.g_law_draw T.F_law_draw.kp T.b_law_draw .nil pass0 (pa_cons (pv 1) pa_nil)) pe_int) pe_int (nomark _)) (pw_and1 (pt_val (pe_callB (id := "isinstance") (r := rIsi K) call_isi (by rfl) T.m_isinstance (by decide +kernel) (pa_cons (pe_dget (hu_of hr) (pv 3) pe_str (fun _ _ => rfl)) (pa_cons (pe_bltn (v := .ty "list") (by rfl) T.m_list (by decide +kernel) rfl) pa_nil)))))))
      (pss_cons (ps_dput (hu_of hr) (pv 3) pe_str pe_int rfl)
      (pss_cons (ps_dput (hu_of hr) (pv 3) pe_str (pe_op op_add pe_int (pe_op op_mul pe_int (pe_op op_mod (pe_call (ok_law_draw T) (hr.mono (by decide)) (by rfl) T.g_law_draw T.F_law_draw.kp T.b_law_draw .nil pass0 (pa_cons (pv 1) pa_nil)) pe_int))) rfl)
      (Evl.pss_cut (ps_if (pt_cmpR op_gt (pe_op op_mod (pe_call (ok_law_draw T) (hr.mono (by decide)) (by rfl) T.g_law_draw T.F_law_draw.kp T.b_law_draw .nil pass0 (pa_cons (pv 1) pa_nil)) pe_int) pe_int (nomark _))
      (pss_one (ps_dput (hu_of hr) (pv 3) pe_str (pe_op op_mul (pe_dget (hu_of hr) (pv 3) pe_str (fun _ _ => rfl)) (pe_op op_add pe_int (pe_op op_mul pe_int (pe_op op_mod (pe_call (ok_law_draw T) (hr.mono (by decide)) (by rfl) T.g_law_draw T.F_law_draw.kp T.b_law_draw .nil pass0 (pa_cons (pv 1) pa_nil)) pe_int)))) rfl))
      pss_nil)
      (pss_one (ps_dput (hu_of hr) (pv 3) pe_str (pe_lst (pa_cons (pe_tup (pa_cons pe_str (pa_cons pe_int (pa_cons pe_int (pa_cons (pe_tup (pa_cons (pe_tup (pa_cons pe_int (pa_cons pe_int pa_nil))) (pa_cons (pe_tup (pa_cons pe_int (pa_cons pe_int pa_nil))) pa_nil))) (pa_cons pe_int (pa_cons pe_int pa_nil))))))) pa_nil)) rfl)))))
      pss_nil)
      (pss_one (ps_if (pt_not (pt_val (pe_call (ok_law_asked T) hr (by rfl) T.g_law_asked T.F_law_asked.kp T.b_law_asked .nil pass0 (pa_cons (pv 3) pa_nil))))
      (pss_one (ps_ret pe_bl))
      pss_nil))))))
      (pss_one (ps_ret pe_bl)))), ?_⟩
    walk_at "start"
    walk_at "x"
    refine ⟨a, ns, rfl, hS, hl, fun nn ms H1 hn1 hs1 hn2 hr hlen => ?_⟩
    walk_at "x"
    refine ⟨by show 2 ≤ sizeLine; decide, fun d hd => ?_⟩
    have hD := Dr.mk hn2 hr hlen hd
    generalize upd H1 d (.lst [.ref nn, .int 0]) = H2 at hD
    clear hn1 hs1 hn2 hr hlen hd hS hl
    walk_at "x"
    refine x_forR1 3 (fun i σ' H' => Dr H' d nn ∧ ∃ v2 v3, σ' = [some (.ref a), some (.ref d), v2, v3]) (fun R r => r) (by decide) (by decide) ⟨hD, _, _, rfl⟩ ?_ ?_
    · clear hD
      rintro turn σ' H2 hturn ⟨hD, v2, v3, rfl⟩
      walk_at "x"
      refine ⟨d, nn, 8, rfl, by decide, hD, ?_⟩
      rintro _ H3 ⟨D, L, as, ss, m, c, i, rfl, hM, h12⟩ hD3 _
      walk_at "x"
      refine x_cut (fun σ' H' => σ' = [some (V.ref a), some (.ref d), some (.int (turn : Int)), some (.ref D)] ∧ Dr H' d nn ∧ ∃ vm vc vi v e, MX H' d D vm vc vi v e) ?_ ?_
      · walk_at "x"
        refine ⟨d, nn, rfl, hD3, ?_⟩
        rintro _ H4 ⟨y, rfl, y0, y1⟩ hD4 k4
        have hM4 := hM.keep hD3 k4
        walk_at "x"
        refine x_ite (fun h0 => ?_) (fun h0 => ?_)
        · walk_at "x"
          refine ⟨d, nn, D, L, as, ss, m, c, i, rfl, hM4, hD4, fun vm vc vi v e H5 hX hD5 => ?_⟩
          walk_at "x"
          exact ⟨rfl, hD5, vm, vc, vi, v, e, hX⟩
        · walk_at "x"
          exact ⟨rfl, hD4, _, _, _, _, _, hM4.mx⟩
      clear hM hD3 h12
      rintro _ H4 ⟨rfl, hD4, vm, vc, vi, v, e, hX⟩
      walk_at "x"
      refine x_cut (fun σ' H' => σ' = [some (V.ref a), some (.ref d), some (.int (turn : Int)), some (.ref D)] ∧ Dr H' d nn ∧ ∃ vm vc vi v e, MX H' d D vm vc vi v e) ?_ ?_
      · walk_at "x"
        have int1 : ∀ {H' : Hp} {z : Int}, ∃ em, DAt d H' (.int z) em := ⟨_, .int _⟩
        refine ⟨d, nn, rfl, hD4, ?_⟩
        rintro _ H5 ⟨y, rfl, y0, y1⟩ hD5 k5
        have hX5 := hX.keep hD4 k5
        walk_at "x"
        refine x_ite (fun h0 => ?_) (fun h0 => ?_)
        · walk_at "x"
          refine x_dgVC rfl hX5.dk mdlX_s ?_
          walk_at "x"
          obtain ⟨es, hes, hl, hst⟩ := hX5.fm
          rcases hes with rfl | rfl
          · have hv1 := hX5.st
            generalize hvv : v = v0 at hv1
            cases hv1 with
            | @lst L xs _ hd hL hs =>
              subst hvv
              walk_at "is"
              walk_at "t"
              refine x_dputD ?_
              walk_at "x"
              obtain ⟨nd, nn2⟩ := hX5.dr hD5
              refine ⟨D, _, rfl, DPut.kX (k := Sum.inr "cells") hX5.dk (lt_line (by show 4 < 1000000; decide)), ?_⟩
              rw [show putK (mdlX vm vc vi (.ref L)) (Sum.inr "cells") (.int 3) = mdlX vm (.int 3) vi (.ref L) from rfl]
              have hX6 := hX5.put (n := nn) hX5.om (int1 (z := 3)) hX5.oi hX5.st hX5.fm
              have hD6 := hD5.upd (o := .dK (mdlX vm (.int 3) vi (.ref L))) nd nn2
              generalize upd H5 D (.dK (mdlX vm (.int 3) vi (.ref L))) = H6 at hX6 hD6
              walk_at "x"
              refine x_dputD ?_
              walk_at "x"
              refine ⟨d, nn, rfl, hD6, ?_⟩
              rintro _ H7 ⟨w, rfl, w0, w1⟩ hD7 k7
              have hX7 := hX6.keep hD6 k7
              walk_at "x"
              obtain ⟨z0, hz0, z3, z8⟩ : ∃ z0 : Int, 3 + 2 * (w % 40) = z0 ∧ 3 ≤ z0 ∧ z0 ≤ 81 := ⟨_, rfl, by omega, by omega⟩
              rw [hz0]
              obtain ⟨nd, nn2⟩ := hX7.dr hD7
              refine ⟨D, _, rfl, DPut.kX (k := Sum.inr "modulus") hX7.dk (lt_line (by show 4 < 1000000; decide)), ?_⟩
              rw [show putK (mdlX vm (.int 3) vi (.ref L)) (Sum.inr "modulus") (.int z0) = mdlX (.int z0) (.int 3) vi (.ref L) from rfl]
              have hX8 := hX7.put (n := nn) (int1 (z := z0)) hX7.oc hX7.oi hX7.st hX7.fm
              have hD8 := hD7.upd (o := .dK (mdlX (.int z0) (.int 3) vi (.ref L))) nd nn2
              generalize upd H7 D (.dK (mdlX (.int z0) (.int 3) vi (.ref L))) = H8 at hX8 hD8
              refine x_cut (fun σ' H' => σ' = [some (V.ref a), some (.ref d), some (.int (turn : Int)), some (.ref D)] ∧ Dr H' d nn ∧ ∃ z1 : Int, MX H' d D (.int z1) (.int 3) vi (.ref L) (.list es)) ?_ ?_
              · walk_at "x"
                refine ⟨d, nn, rfl, hD8, ?_⟩
                rintro _ H9 ⟨u, rfl, u0, u1⟩ hD9 k9
                have hX9 := hX8.keep hD8 k9
                walk_at "x"
                refine x_ite (fun h1 => ?_) (fun h1 => ?_)
                · walk_at "x"
                  refine x_dputD ?_
                  walk_at "x"
                  refine x_dgVC rfl hX9.dk mdlX_m ?_
                  walk_at "x"
                  refine ⟨d, nn, rfl, hD9, ?_⟩
                  rintro _ HA ⟨t, rfl, t0, t1⟩ hDA kA
                  have hXA := hX9.keep hD9 kA
                  walk_at "x"
                  obtain ⟨z2, hz2, z23, z28⟩ : ∃ z2 : Int, 3 + 2 * (t % 200) = z2 ∧ 3 ≤ z2 ∧ z2 ≤ 500 := ⟨_, rfl, by omega, by omega⟩
                  rw [hz2]
                  obtain ⟨nd, nn2⟩ := hXA.dr hDA
                  refine ⟨D, _, rfl, DPut.kX (k := Sum.inr "modulus") hXA.dk (lt_line (by show 4 < 1000000; decide)), ?_⟩
                  rw [show putK (mdlX (.int z0) (.int 3) vi (.ref L)) (Sum.inr "modulus") (.int (z0 * z2)) = mdlX (.int (z0 * z2)) (.int 3) vi (.ref L) from rfl]
                  exact ⟨rfl, hDA.upd nd nn2, _, hXA.put (n := nn) int1 hXA.oc hXA.oi hXA.st hXA.fm⟩
                · walk_at "x"
                  exact ⟨rfl, hD9, _, hX9⟩
              rintro _ HB ⟨rfl, hDB, z1, hXB⟩
              walk_at "x"
              refine x_dputD ?_
              walk_at "x"
              refine ⟨by show 2 ≤ sizeLine; decide, fun q1 hq1 => ?_⟩
              have sq1 := same_upd (o := .tup [.int 1, .int 2]) hq1
              have eq1 : (upd HB q1 (.tup [.int 1, .int 2])) q1 = some (.tup [.int 1, .int 2]) := upd_same
              generalize upd HB q1 (.tup [.int 1, .int 2]) = G1 at sq1 eq1
              walk_at "x"
              refine ⟨by show 2 ≤ sizeLine; decide, fun q2 hq2 => ?_⟩
              have sq2 := same_upd (o := .tup [.int 3, .int 4]) hq2
              have eq2 : (upd G1 q2 (.tup [.int 3, .int 4])) q2 = some (.tup [.int 3, .int 4]) := upd_same
              generalize upd G1 q2 (.tup [.int 3, .int 4]) = G2 at sq2 eq2
              walk_at "x"
              refine ⟨by show 2 ≤ sizeLine; decide, fun q3 hq3 => ?_⟩
              have sq3 := same_upd (o := .tup [.ref q1, .ref q2]) hq3
              have eq3 : (upd G2 q3 (.tup [.ref q1, .ref q2])) q3 = some (.tup [.ref q1, .ref q2]) := upd_same
              generalize upd G2 q3 (.tup [.ref q1, .ref q2]) = G3 at sq3 eq3
              walk_at "x"
              refine ⟨by show 6 ≤ sizeLine; decide, fun q4 hq4 => ?_⟩
              have sq4 := same_upd (o := .tup [.str "table", .int 0, .int 1, .ref q3, .int 1, .int 2]) hq4
              have eq4 : (upd G3 q4 (.tup [.str "table", .int 0, .int 1, .ref q3, .int 1, .int 2])) q4 = some (.tup [.str "table", .int 0, .int 1, .ref q3, .int 1, .int 2]) := upd_same
              generalize upd G3 q4 (.tup [.str "table", .int 0, .int 1, .ref q3, .int 1, .int 2]) = G4 at sq4 eq4
              walk_at "x"
              refine ⟨by show 1 ≤ sizeLine; decide, fun q5 hq5 => ?_⟩
              have sq5 := same_upd (o := .lst [.ref q4]) hq5
              have eq5 : (upd G4 q5 (.lst [.ref q4])) q5 = some (.lst [.ref q4]) := upd_same
              generalize upd G4 q5 (.lst [.ref q4]) = G5 at sq5 eq5
              walk_at "x"
              have s5 := (((sq1.trans sq2).trans sq3).trans sq4).trans sq5
              have hX5 := hXB.same s5
              have hD5 := hDB.same s5
              have q5d : q5 ≠ d := (hDB.same (((sq1.trans sq2).trans sq3).trans sq4)).new hq5
              have f1 := ((((sq2.trans sq3).trans sq4).trans sq5)) _ _ eq1
              have f2 := ((sq3.trans sq4).trans sq5) _ _ eq2
              have f3 := (sq4.trans sq5) _ _ eq3
              have f4 := sq5 _ _ eq4
              obtain ⟨nd, nn2⟩ := hX5.dr hD5
              refine ⟨D, _, rfl, DPut.kX (k := Sum.inr "steps") hX5.dk (lt_line (by show 4 < 1000000; decide)), ?_⟩
              rw [show putK (mdlX (.int z1) (.int 3) vi (.ref L)) (Sum.inr "steps") (.ref q5) = mdlX (.int z1) (.int 3) vi (.ref q5) from rfl]
              walk_at "x"
              have hrow : ∀ {x y : Int}, ShN 1 (.tuple [.int x, .int y]) := ShN.tup (n := 0) (al_cons .int (al_cons .int al_nil))
              exact ⟨rfl, hD5.upd nd nn2, _, _, _, _, _, hX5.put (n := nn) hX5.om hX5.oc hX5.oi (.lst q5d eq5 (.cons (.tup f4 (.cons (.str _) (.cons (.int _) (.cons (.int _) (.cons (.tup f3 (.cons (.tup f1 (.cons (.int _) (.cons (.int _) .nil))) (.cons (.tup f2 (.cons (.int _) (.cons (.int _) .nil))) .nil))) (.cons (.int _) (.cons (.int _) .nil))))))) .nil)) (stl_list (by decide) (al_cons (P := St) (St.tup (al_cons (.str (by decide +kernel)) (al_cons .int (al_cons .int (al_cons ((El.tup (n := 1) (al_cons hrow (al_cons hrow al_nil)) (by decide)).mono (by decide)) (al_cons .int (al_cons .int al_nil))))))) al_nil))⟩
          · have hv1 := hX5.st
            generalize hvv : v = v0 at hv1
            cases hv1 with
            | @tup L xs _ hL hs =>
              subst hvv
              walk_at "is"
              walk_at "f"
              exact ⟨rfl, hD5, _, _, _, _, _, hX5⟩
        · walk_at "f"
          exact ⟨rfl, hD5, _, _, _, _, _, hX5⟩
      · rintro _ H5 ⟨rfl, hD5, vm, vc, vi, v, e, hX⟩
        walk_at "x"
        refine ⟨d, D, vm, vc, vi, v, e, rfl, hX, hD5.ne, fun H6 s6 => ?_⟩
        walk_at "x"
        walk_at "f"
        exact ⟨hD5.same s6, _, _, rfl⟩
    · rintro σ' H3 ⟨hD, v2, v3, rfl⟩
      walk_at "x"
      exact q H3


theorem all_mk {l : PySem.W.OpenLaw} {w : World} {K : PySem.W.Frag} {h : Heap} {mg : Str → Option Value} {fa : Addr} (X : K.In h) (G : h.Ns mainGlobals mg) (hfa : mg "law" = some (.ref fa))
    {f0 : Addr} {od0 an0 : Option Addr} {sl0 : Array (Option Value)} {oc0 kV0 dc0 pm0 cd0 ct0 : Value}
    {f1 : Addr} {od1 an1 : Option Addr} {sl1 : Array (Option Value)} {oc1 kV1 dc1 pm1 cd1 ct1 : Value}
    {f2 : Addr} {od2 an2 : Option Addr} {sl2 : Array (Option Value)} {oc2 kV2 dc2 pm2 cd2 ct2 : Value}
    {f3 : Addr} {od3 an3 : Option Addr} {sl3 : Array (Option Value)} {oc3 kV3 dc3 pm3 cd3 ct3 : Value}
    {f4 : Addr} {od4 an4 : Option Addr} {sl4 : Array (Option Value)} {oc4 kV4 dc4 pm4 cd4 ct4 : Value}
    {f5 : Addr} {od5 an5 : Option Addr} {sl5 : Array (Option Value)} {oc5 kV5 dc5 pm5 cd5 ct5 : Value}
    {f6 : Addr} {od6 an6 : Option Addr} {sl6 : Array (Option Value)} {oc6 kV6 dc6 pm6 cd6 ct6 : Value}
    {f7 : Addr} {od7 an7 : Option Addr} {sl7 : Array (Option Value)} {oc7 kV7 dc7 pm7 cd7 ct7 : Value}
    {f8 : Addr} {od8 an8 : Option Addr} {sl8 : Array (Option Value)} {oc8 kV8 dc8 pm8 cd8 ct8 : Value}
    {f9 : Addr} {od9 an9 : Option Addr} {sl9 : Array (Option Value)} {oc9 kV9 dc9 pm9 cd9 ct9 : Value}
    {f10 : Addr} {od10 an10 : Option Addr} {sl10 : Array (Option Value)} {oc10 kV10 dc10 pm10 cd10 ct10 : Value}
    {f11 : Addr} {od11 an11 : Option Addr} {sl11 : Array (Option Value)} {oc11 kV11 dc11 pm11 cd11 ct11 : Value}
    {f12 : Addr} {od12 an12 : Option Addr} {sl12 : Array (Option Value)} {oc12 kV12 dc12 pm12 cd12 ct12 : Value}
    {f13 : Addr} {od13 an13 : Option Addr} {sl13 : Array (Option Value)} {oc13 kV13 dc13 pm13 cd13 ct13 : Value}
    {f14 : Addr} {od14 an14 : Option Addr} {sl14 : Array (Option Value)} {oc14 kV14 dc14 pm14 cd14 ct14 : Value}
    {f15 : Addr} {od15 an15 : Option Addr} {sl15 : Array (Option Value)} {oc15 kV15 dc15 pm15 cd15 ct15 : Value}
    {f16 : Addr} {od16 an16 : Option Addr} {sl16 : Array (Option Value)} {oc16 kV16 dc16 pm16 cd16 ct16 : Value}
    {f17 : Addr} {od17 an17 : Option Addr} {sl17 : Array (Option Value)} {oc17 kV17 dc17 pm17 cd17 ct17 : Value}
    {f18 : Addr} {od18 an18 : Option Addr} {sl18 : Array (Option Value)} {oc18 kV18 dc18 pm18 cd18 ct18 : Value}
    {f19 : Addr} {od19 an19 : Option Addr} {sl19 : Array (Option Value)} {oc19 kV19 dc19 pm19 cd19 ct19 : Value}
    {f20 : Addr} {od20 an20 : Option Addr} {sl20 : Array (Option Value)} {oc20 kV20 dc20 pm20 cd20 ct20 : Value}
    {f21 : Addr} {od21 an21 : Option Addr} {sl21 : Array (Option Value)} {oc21 kV21 dc21 pm21 cd21 ct21 : Value}
    {f22 : Addr} {od22 an22 : Option Addr} {sl22 : Array (Option Value)} {oc22 kV22 dc22 pm22 cd22 ct22 : Value}
    {f23 : Addr} {od23 an23 : Option Addr} {sl23 : Array (Option Value)} {oc23 kV23 dc23 pm23 cd23 ct23 : Value}
    {f24 : Addr} {od24 an24 : Option Addr} {sl24 : Array (Option Value)} {oc24 kV24 dc24 pm24 cd24 ct24 : Value}
    {f25 : Addr} {od25 an25 : Option Addr} {sl25 : Array (Option Value)} {oc25 kV25 dc25 pm25 cd25 ct25 : Value}
    {f26 : Addr} {od26 an26 : Option Addr} {sl26 : Array (Option Value)} {oc26 kV26 dc26 pm26 cd26 ct26 : Value}
    {f27 : Addr} {od27 an27 : Option Addr} {sl27 : Array (Option Value)} {oc27 kV27 dc27 pm27 cd27 ct27 : Value}
    {f28 : Addr} {od28 an28 : Option Addr} {sl28 : Array (Option Value)} {oc28 kV28 dc28 pm28 cd28 ct28 : Value}
    {f29 : Addr} {od29 an29 : Option Addr} {sl29 : Array (Option Value)} {oc29 kV29 dc29 pm29 cd29 ct29 : Value}
    {f30 : Addr} {od30 an30 : Option Addr} {sl30 : Array (Option Value)} {oc30 kV30 dc30 pm30 cd30 ct30 : Value}
    {f31 : Addr} {od31 an31 : Option Addr} {sl31 : Array (Option Value)} {oc31 kV31 dc31 pm31 cd31 ct31 : Value}
    {f32 : Addr} {od32 an32 : Option Addr} {sl32 : Array (Option Value)} {oc32 kV32 dc32 pm32 cd32 ct32 : Value}
    {f33 : Addr} {od33 an33 : Option Addr} {sl33 : Array (Option Value)} {oc33 kV33 dc33 pm33 cd33 ct33 : Value}
    {f34 : Addr} {od34 an34 : Option Addr} {sl34 : Array (Option Value)} {oc34 kV34 dc34 pm34 cd34 ct34 : Value}
    {f35 : Addr} {od35 an35 : Option Addr} {sl35 : Array (Option Value)} {oc35 kV35 dc35 pm35 cd35 ct35 : Value}
    {f36 : Addr} {od36 an36 : Option Addr} {sl36 : Array (Option Value)} {oc36 kV36 dc36 pm36 cd36 ct36 : Value}
    {f37 : Addr} {od37 an37 : Option Addr} {sl37 : Array (Option Value)} {oc37 kV37 dc37 pm37 cd37 ct37 : Value}
    {f38 : Addr} {od38 an38 : Option Addr} {sl38 : Array (Option Value)} {oc38 kV38 dc38 pm38 cd38 ct38 : Value}
    {f39 : Addr} {od39 an39 : Option Addr} {sl39 : Array (Option Value)} {oc39 kV39 dc39 pm39 cd39 ct39 : Value}
    {f40 : Addr} {od40 an40 : Option Addr} {sl40 : Array (Option Value)} {oc40 kV40 dc40 pm40 cd40 ct40 : Value}
    {f41 : Addr} {od41 an41 : Option Addr} {sl41 : Array (Option Value)} {oc41 kV41 dc41 pm41 cd41 ct41 : Value}
    {f42 : Addr} {od42 an42 : Option Addr} {sl42 : Array (Option Value)} {oc42 kV42 dc42 pm42 cd42 ct42 : Value}
    {C_Program : Addr}
    {E_BrimfulError : Addr}
    {E_BadStep : Addr}
    {E_BadMemory : Addr}
    {t_GREATEST_MODULUS : Tok}
    {t_MOST_CELLS : Tok}
    {t_MOST_FACTORS : Tok}
    {t_MOST_INPUTS : Tok}
    {t_MOST_STEPS : Tok}
    (aC_Program : PySem.W.nsIn K mainGlobals "Program" = some (some (.ref C_Program)))
    (pg_Program : PySem.W.plainGet K C_Program Str.empty = true) (hd_Program : PySem.W.hasDictIn K C_Program = true) (po_Program : PySem.W.plainOver K C_Program = true)
    (sa_Program : PySem.W.findIn K (.ref C_Program) "__setattr__" = some (some (.builtin "object.__setattr__"))) (mk_Program : PySem.W.makesIn K C_Program = true) (kc_Program : PySem.W.keepIn K (.ref C_Program) = true)
    (hnE : PySem.W.specialIn K (.builtin "object.__class__") "__get__" = some (some (.builtin "getset_descriptor.__get__"))) (htE : PySem.W.takesIn K (.builtin "object.__class__") = some true)
    (aE_BrimfulError : PySem.W.nsIn K mainGlobals "BrimfulError" = some (some (.ref E_BrimfulError))) (xE_BrimfulError : PySem.W.excIn K E_BrimfulError [.type "ValueError", .type "Exception", .type "BaseException", .type "object"] "ValueError.__new__" = true) (kE_BrimfulError : PySem.W.keepIn K (.ref E_BrimfulError) = true)
    (bE_BrimfulError : PySem.W.subIn K (.ref E_BrimfulError) (.type "BaseException") = some true) (tE_BrimfulError : PySem.W.typeIn K (.ref E_BrimfulError) = some (.type "type")) (dE_BrimfulError : PySem.W.hasDictIn K E_BrimfulError = true)
    (h1E_BrimfulError : PySem.W.findIn K (.ref E_BrimfulError) "__getattribute__" = some (some (.builtin "BaseException.__getattribute__"))) (h2E_BrimfulError : PySem.W.findIn K (.ref E_BrimfulError) "__getattr__" = some none) (h3E_BrimfulError : PySem.W.findIn K (.ref E_BrimfulError) "__class__" = some (some (.builtin "object.__class__"))) (h4E_BrimfulError : PySem.W.mroIn K E_BrimfulError (.type "object") = some true)
    (aE_BadStep : PySem.W.nsIn K mainGlobals "BadStep" = some (some (.ref E_BadStep))) (xE_BadStep : PySem.W.excIn K E_BadStep [.type "ValueError", .type "Exception", .type "BaseException", .type "object"] "ValueError.__new__" = true) (kE_BadStep : PySem.W.keepIn K (.ref E_BadStep) = true)
    (bE_BadStep : PySem.W.subIn K (.ref E_BadStep) (.type "BaseException") = some true) (tE_BadStep : PySem.W.typeIn K (.ref E_BadStep) = some (.type "type")) (dE_BadStep : PySem.W.hasDictIn K E_BadStep = true)
    (h1E_BadStep : PySem.W.findIn K (.ref E_BadStep) "__getattribute__" = some (some (.builtin "BaseException.__getattribute__"))) (h2E_BadStep : PySem.W.findIn K (.ref E_BadStep) "__getattr__" = some none) (h3E_BadStep : PySem.W.findIn K (.ref E_BadStep) "__class__" = some (some (.builtin "object.__class__"))) (h4E_BadStep : PySem.W.mroIn K E_BadStep (.type "object") = some true)
    (aE_BadMemory : PySem.W.nsIn K mainGlobals "BadMemory" = some (some (.ref E_BadMemory))) (xE_BadMemory : PySem.W.excIn K E_BadMemory [.type "ValueError", .type "Exception", .type "BaseException", .type "object"] "ValueError.__new__" = true) (kE_BadMemory : PySem.W.keepIn K (.ref E_BadMemory) = true)
    (bE_BadMemory : PySem.W.subIn K (.ref E_BadMemory) (.type "BaseException") = some true) (tE_BadMemory : PySem.W.typeIn K (.ref E_BadMemory) = some (.type "type")) (dE_BadMemory : PySem.W.hasDictIn K E_BadMemory = true)
    (h1E_BadMemory : PySem.W.findIn K (.ref E_BadMemory) "__getattribute__" = some (some (.builtin "BaseException.__getattribute__"))) (h2E_BadMemory : PySem.W.findIn K (.ref E_BadMemory) "__getattr__" = some none) (h3E_BadMemory : PySem.W.findIn K (.ref E_BadMemory) "__class__" = some (some (.builtin "object.__class__"))) (h4E_BadMemory : PySem.W.mroIn K E_BadMemory (.type "object") = some true)
    (vE_BrimfulError : PySem.W.subIn K (.ref E_BrimfulError) (.type "ValueError") = some true)
    (vE_BadStep : PySem.W.subIn K (.ref E_BadStep) (.type "ValueError") = some true)
    (vE_BadMemory : PySem.W.subIn K (.ref E_BadMemory) (.type "ValueError") = some true)
    (sE_BrimfulError_BrimfulError : PySem.W.subIn K (.ref E_BrimfulError) (.ref E_BrimfulError) = some true)
    (sE_BrimfulError_BadStep : PySem.W.subIn K (.ref E_BrimfulError) (.ref E_BadStep) = some false)
    (sE_BrimfulError_BadMemory : PySem.W.subIn K (.ref E_BrimfulError) (.ref E_BadMemory) = some false)
    (sE_BadStep_BrimfulError : PySem.W.subIn K (.ref E_BadStep) (.ref E_BrimfulError) = some true)
    (sE_BadStep_BadStep : PySem.W.subIn K (.ref E_BadStep) (.ref E_BadStep) = some true)
    (sE_BadStep_BadMemory : PySem.W.subIn K (.ref E_BadStep) (.ref E_BadMemory) = some false)
    (sE_BadMemory_BrimfulError : PySem.W.subIn K (.ref E_BadMemory) (.ref E_BrimfulError) = some true)
    (sE_BadMemory_BadStep : PySem.W.subIn K (.ref E_BadMemory) (.ref E_BadStep) = some false)
    (sE_BadMemory_BadMemory : PySem.W.subIn K (.ref E_BadMemory) (.ref E_BadMemory) = some true)
    (a0 : PySem.W.nsIn K mainGlobals "is_below" = some (some (.ref f0)))
    (l0 : K.lookup f0 = some ⟨oc0, od0, .func (PySem.W.fnOf "is_below" "is_below" (defArgs s_is_below) (defBody s_is_below) (defScope s_is_below) .none kV0 dc0 pm0 an0 cd0 ct0), sl0⟩)
    (c0 : PySem.W.codeIn K cd0 "is_below" = true) (k0 : PySem.W.keepIn K (.ref f0) = true)
    (a1 : PySem.W.nsIn K mainGlobals "is_modulus" = some (some (.ref f1)))
    (l1 : K.lookup f1 = some ⟨oc1, od1, .func (PySem.W.fnOf "is_modulus" "is_modulus" (defArgs s_is_modulus) (defBody s_is_modulus) (defScope s_is_modulus) .none kV1 dc1 pm1 an1 cd1 ct1), sl1⟩)
    (c1 : PySem.W.codeIn K cd1 "is_modulus" = true) (k1 : PySem.W.keepIn K (.ref f1) = true)
    (a2 : PySem.W.nsIn K mainGlobals "is_prime" = some (some (.ref f2)))
    (l2 : K.lookup f2 = some ⟨oc2, od2, .func (PySem.W.fnOf "is_prime" "is_prime" (defArgs s_is_prime) (defBody s_is_prime) (defScope s_is_prime) .none kV2 dc2 pm2 an2 cd2 ct2), sl2⟩)
    (c2 : PySem.W.codeIn K cd2 "is_prime" = true) (k2 : PySem.W.keepIn K (.ref f2) = true)
    (a3 : PySem.W.nsIn K mainGlobals "is_step" = some (some (.ref f3)))
    (l3 : K.lookup f3 = some ⟨oc3, od3, .func (PySem.W.fnOf "is_step" "is_step" (defArgs s_is_step) (defBody s_is_step) (defScope s_is_step) .none kV3 dc3 pm3 an3 cd3 ct3), sl3⟩)
    (c3 : PySem.W.codeIn K cd3 "is_step" = true) (k3 : PySem.W.keepIn K (.ref f3) = true)
    (a4 : PySem.W.nsIn K mainGlobals "_are_factors" = some (some (.ref f4)))
    (l4 : K.lookup f4 = some ⟨oc4, od4, .func (PySem.W.fnOf "_are_factors" "_are_factors" (defArgs s_are_factors) (defBody s_are_factors) (defScope s_are_factors) .none kV4 dc4 pm4 an4 cd4 ct4), sl4⟩)
    (c4 : PySem.W.codeIn K cd4 "_are_factors" = true) (k4 : PySem.W.keepIn K (.ref f4) = true)
    (a5 : PySem.W.nsIn K mainGlobals "_is_factor" = some (some (.ref f5)))
    (l5 : K.lookup f5 = some ⟨oc5, od5, .func (PySem.W.fnOf "_is_factor" "_is_factor" (defArgs s_is_factor) (defBody s_is_factor) (defScope s_is_factor) .none kV5 dc5 pm5 an5 cd5 ct5), sl5⟩)
    (c5 : PySem.W.codeIn K cd5 "_is_factor" = true) (k5 : PySem.W.keepIn K (.ref f5) = true)
    (a6 : PySem.W.nsIn K mainGlobals "_are_three_cells" = some (some (.ref f6)))
    (l6 : K.lookup f6 = some ⟨oc6, od6, .func (PySem.W.fnOf "_are_three_cells" "_are_three_cells" (defArgs s_are_three_cells) (defBody s_are_three_cells) (defScope s_are_three_cells) .none kV6 dc6 pm6 an6 cd6 ct6), sl6⟩)
    (c6 : PySem.W.codeIn K cd6 "_are_three_cells" = true) (k6 : PySem.W.keepIn K (.ref f6) = true)
    (a7 : PySem.W.nsIn K mainGlobals "_is_sign" = some (some (.ref f7)))
    (l7 : K.lookup f7 = some ⟨oc7, od7, .func (PySem.W.fnOf "_is_sign" "_is_sign" (defArgs s_is_sign) (defBody s_is_sign) (defScope s_is_sign) .none kV7 dc7 pm7 an7 cd7 ct7), sl7⟩)
    (c7 : PySem.W.codeIn K cd7 "_is_sign" = true) (k7 : PySem.W.keepIn K (.ref f7) = true)
    (a8 : PySem.W.nsIn K mainGlobals "is_table" = some (some (.ref f8)))
    (l8 : K.lookup f8 = some ⟨oc8, od8, .func (PySem.W.fnOf "is_table" "is_table" (defArgs s_is_table) (defBody s_is_table) (defScope s_is_table) .none kV8 dc8 pm8 an8 cd8 ct8), sl8⟩)
    (c8 : PySem.W.codeIn K cd8 "is_table" = true) (k8 : PySem.W.keepIn K (.ref f8) = true)
    (a9 : PySem.W.nsIn K mainGlobals "_is_row" = some (some (.ref f9)))
    (l9 : K.lookup f9 = some ⟨oc9, od9, .func (PySem.W.fnOf "_is_row" "_is_row" (defArgs s_is_row) (defBody s_is_row) (defScope s_is_row) .none kV9 dc9 pm9 an9 cd9 ct9), sl9⟩)
    (c9 : PySem.W.codeIn K cd9 "_is_row" = true) (k9 : PySem.W.keepIn K (.ref f9) = true)
    (a10 : PySem.W.nsIn K mainGlobals "_check_sizes" = some (some (.ref f10)))
    (l10 : K.lookup f10 = some ⟨oc10, od10, .func (PySem.W.fnOf "_check_sizes" "_check_sizes" (defArgs s_check_sizes) (defBody s_check_sizes) (defScope s_check_sizes) .none kV10 dc10 pm10 an10 cd10 ct10), sl10⟩)
    (c10 : PySem.W.codeIn K cd10 "_check_sizes" = true) (k10 : PySem.W.keepIn K (.ref f10) = true)
    (a11 : PySem.W.nsIn K mainGlobals "_check_steps" = some (some (.ref f11)))
    (l11 : K.lookup f11 = some ⟨oc11, od11, .func (PySem.W.fnOf "_check_steps" "_check_steps" (defArgs s_check_steps) (defBody s_check_steps) (defScope s_check_steps) .none kV11 dc11 pm11 an11 cd11 ct11), sl11⟩)
    (c11 : PySem.W.codeIn K cd11 "_check_steps" = true) (k11 : PySem.W.keepIn K (.ref f11) = true)
    (a12 : PySem.W.nsIn K mainGlobals "_law_mixed" = some (some (.ref f12)))
    (l12 : K.lookup f12 = some ⟨oc12, od12, .func (PySem.W.fnOf "_law_mixed" "_law_mixed" (defArgs s_law_mixed) (defBody s_law_mixed) (defScope s_law_mixed) .none kV12 dc12 pm12 an12 cd12 ct12), sl12⟩)
    (c12 : PySem.W.codeIn K cd12 "_law_mixed" = true) (k12 : PySem.W.keepIn K (.ref f12) = true)
    (a13 : PySem.W.nsIn K mainGlobals "_law_numbers" = some (some (.ref f13)))
    (l13 : K.lookup f13 = some ⟨oc13, od13, .func (PySem.W.fnOf "_law_numbers" "_law_numbers" (defArgs s_law_numbers) (defBody s_law_numbers) (defScope s_law_numbers) .none kV13 dc13 pm13 an13 cd13 ct13), sl13⟩)
    (c13 : PySem.W.codeIn K cd13 "_law_numbers" = true) (k13 : PySem.W.keepIn K (.ref f13) = true)
    (a14 : PySem.W.nsIn K mainGlobals "_law_draw" = some (some (.ref f14)))
    (l14 : K.lookup f14 = some ⟨oc14, od14, .func (PySem.W.fnOf "_law_draw" "_law_draw" (defArgs s_law_draw) (defBody s_law_draw) (defScope s_law_draw) .none kV14 dc14 pm14 an14 cd14 ct14), sl14⟩)
    (c14 : PySem.W.codeIn K cd14 "_law_draw" = true) (k14 : PySem.W.keepIn K (.ref f14) = true)
    (a15 : PySem.W.nsIn K mainGlobals "_law_equal" = some (some (.ref f15)))
    (l15 : K.lookup f15 = some ⟨oc15, od15, .func (PySem.W.fnOf "_law_equal" "_law_equal" (defArgs s_law_equal) (defBody s_law_equal) (defScope s_law_equal) .none kV15 dc15 pm15 an15 cd15 ct15), sl15⟩)
    (c15 : PySem.W.codeIn K cd15 "_law_equal" = true) (k15 : PySem.W.keepIn K (.ref f15) = true)
    (a16 : PySem.W.nsIn K mainGlobals "_law_all_equal" = some (some (.ref f16)))
    (l16 : K.lookup f16 = some ⟨oc16, od16, .func (PySem.W.fnOf "_law_all_equal" "_law_all_equal" (defArgs s_law_all_equal) (defBody s_law_all_equal) (defScope s_law_all_equal) .none kV16 dc16 pm16 an16 cd16 ct16), sl16⟩)
    (c16 : PySem.W.codeIn K cd16 "_law_all_equal" = true) (k16 : PySem.W.keepIn K (.ref f16) = true)
    (a17 : PySem.W.nsIn K mainGlobals "_law_large" = some (some (.ref f17)))
    (l17 : K.lookup f17 = some ⟨oc17, od17, .func (PySem.W.fnOf "_law_large" "_law_large" (defArgs s_law_large) (defBody s_law_large) (defScope s_law_large) .none kV17 dc17 pm17 an17 cd17 ct17), sl17⟩)
    (c17 : PySem.W.codeIn K cd17 "_law_large" = true) (k17 : PySem.W.keepIn K (.ref f17) = true)
    (a18 : PySem.W.nsIn K mainGlobals "_law_modulus" = some (some (.ref f18)))
    (l18 : K.lookup f18 = some ⟨oc18, od18, .func (PySem.W.fnOf "_law_modulus" "_law_modulus" (defArgs s_law_modulus) (defBody s_law_modulus) (defScope s_law_modulus) .none kV18 dc18 pm18 an18 cd18 ct18), sl18⟩)
    (c18 : PySem.W.codeIn K cd18 "_law_modulus" = true) (k18 : PySem.W.keepIn K (.ref f18) = true)
    (a19 : PySem.W.nsIn K mainGlobals "_law_number" = some (some (.ref f19)))
    (l19 : K.lookup f19 = some ⟨oc19, od19, .func (PySem.W.fnOf "_law_number" "_law_number" (defArgs s_law_number) (defBody s_law_number) (defScope s_law_number) .none kV19 dc19 pm19 an19 cd19 ct19), sl19⟩)
    (c19 : PySem.W.codeIn K cd19 "_law_number" = true) (k19 : PySem.W.keepIn K (.ref f19) = true)
    (a20 : PySem.W.nsIn K mainGlobals "_law_gcd" = some (some (.ref f20)))
    (l20 : K.lookup f20 = some ⟨oc20, od20, .func (PySem.W.fnOf "_law_gcd" "_law_gcd" (defArgs s_law_gcd) (defBody s_law_gcd) (defScope s_law_gcd) .none kV20 dc20 pm20 an20 cd20 ct20), sl20⟩)
    (c20 : PySem.W.codeIn K cd20 "_law_gcd" = true) (k20 : PySem.W.keepIn K (.ref f20) = true)
    (a21 : PySem.W.nsIn K mainGlobals "_law_unit" = some (some (.ref f21)))
    (l21 : K.lookup f21 = some ⟨oc21, od21, .func (PySem.W.fnOf "_law_unit" "_law_unit" (defArgs s_law_unit) (defBody s_law_unit) (defScope s_law_unit) .none kV21 dc21 pm21 an21 cd21 ct21), sl21⟩)
    (c21 : PySem.W.codeIn K cd21 "_law_unit" = true) (k21 : PySem.W.keepIn K (.ref f21) = true)
    (a22 : PySem.W.nsIn K mainGlobals "_law_integer" = some (some (.ref f22)))
    (l22 : K.lookup f22 = some ⟨oc22, od22, .func (PySem.W.fnOf "_law_integer" "_law_integer" (defArgs s_law_integer) (defBody s_law_integer) (defScope s_law_integer) .none kV22 dc22 pm22 an22 cd22 ct22), sl22⟩)
    (c22 : PySem.W.codeIn K cd22 "_law_integer" = true) (k22 : PySem.W.keepIn K (.ref f22) = true)
    (a23 : PySem.W.nsIn K mainGlobals "_law_prime_modulus" = some (some (.ref f23)))
    (l23 : K.lookup f23 = some ⟨oc23, od23, .func (PySem.W.fnOf "_law_prime_modulus" "_law_prime_modulus" (defArgs s_law_prime_modulus) (defBody s_law_prime_modulus) (defScope s_law_prime_modulus) .none kV23 dc23 pm23 an23 cd23 ct23), sl23⟩)
    (c23 : PySem.W.codeIn K cd23 "_law_prime_modulus" = true) (k23 : PySem.W.keepIn K (.ref f23) = true)
    (a24 : PySem.W.nsIn K mainGlobals "_law_prime" = some (some (.ref f24)))
    (l24 : K.lookup f24 = some ⟨oc24, od24, .func (PySem.W.fnOf "_law_prime" "_law_prime" (defArgs s_law_prime) (defBody s_law_prime) (defScope s_law_prime) .none kV24 dc24 pm24 an24 cd24 ct24), sl24⟩)
    (c24 : PySem.W.codeIn K cd24 "_law_prime" = true) (k24 : PySem.W.keepIn K (.ref f24) = true)
    (a25 : PySem.W.nsIn K mainGlobals "_law_table" = some (some (.ref f25)))
    (l25 : K.lookup f25 = some ⟨oc25, od25, .func (PySem.W.fnOf "_law_table" "_law_table" (defArgs s_law_table) (defBody s_law_table) (defScope s_law_table) .none kV25 dc25 pm25 an25 cd25 ct25), sl25⟩)
    (c25 : PySem.W.codeIn K cd25 "_law_table" = true) (k25 : PySem.W.keepIn K (.ref f25) = true)
    (a26 : PySem.W.nsIn K mainGlobals "_law_factor" = some (some (.ref f26)))
    (l26 : K.lookup f26 = some ⟨oc26, od26, .func (PySem.W.fnOf "_law_factor" "_law_factor" (defArgs s_law_factor) (defBody s_law_factor) (defScope s_law_factor) .none kV26 dc26 pm26 an26 cd26 ct26), sl26⟩)
    (c26 : PySem.W.codeIn K cd26 "_law_factor" = true) (k26 : PySem.W.keepIn K (.ref f26) = true)
    (a27 : PySem.W.nsIn K mainGlobals "_law_step" = some (some (.ref f27)))
    (l27 : K.lookup f27 = some ⟨oc27, od27, .func (PySem.W.fnOf "_law_step" "_law_step" (defArgs s_law_step) (defBody s_law_step) (defScope s_law_step) .none kV27 dc27 pm27 an27 cd27 ct27), sl27⟩)
    (c27 : PySem.W.codeIn K cd27 "_law_step" = true) (k27 : PySem.W.keepIn K (.ref f27) = true)
    (a28 : PySem.W.nsIn K mainGlobals "_law_program" = some (some (.ref f28)))
    (l28 : K.lookup f28 = some ⟨oc28, od28, .func (PySem.W.fnOf "_law_program" "_law_program" (defArgs s_law_program) (defBody s_law_program) (defScope s_law_program) .none kV28 dc28 pm28 an28 cd28 ct28), sl28⟩)
    (c28 : PySem.W.codeIn K cd28 "_law_program" = true) (k28 : PySem.W.keepIn K (.ref f28) = true)
    (a29 : PySem.W.nsIn K mainGlobals "_law_is_factor" = some (some (.ref f29)))
    (l29 : K.lookup f29 = some ⟨oc29, od29, .func (PySem.W.fnOf "_law_is_factor" "_law_is_factor" (defArgs s_law_is_factor) (defBody s_law_is_factor) (defScope s_law_is_factor) .none kV29 dc29 pm29 an29 cd29 ct29), sl29⟩)
    (c29 : PySem.W.codeIn K cd29 "_law_is_factor" = true) (k29 : PySem.W.keepIn K (.ref f29) = true)
    (a30 : PySem.W.nsIn K mainGlobals "_law_is_table" = some (some (.ref f30)))
    (l30 : K.lookup f30 = some ⟨oc30, od30, .func (PySem.W.fnOf "_law_is_table" "_law_is_table" (defArgs s_law_is_table) (defBody s_law_is_table) (defScope s_law_is_table) .none kV30 dc30 pm30 an30 cd30 ct30), sl30⟩)
    (c30 : PySem.W.codeIn K cd30 "_law_is_table" = true) (k30 : PySem.W.keepIn K (.ref f30) = true)
    (a31 : PySem.W.nsIn K mainGlobals "_law_is_add" = some (some (.ref f31)))
    (l31 : K.lookup f31 = some ⟨oc31, od31, .func (PySem.W.fnOf "_law_is_add" "_law_is_add" (defArgs s_law_is_add) (defBody s_law_is_add) (defScope s_law_is_add) .none kV31 dc31 pm31 an31 cd31 ct31), sl31⟩)
    (c31 : PySem.W.codeIn K cd31 "_law_is_add" = true) (k31 : PySem.W.keepIn K (.ref f31) = true)
    (a32 : PySem.W.nsIn K mainGlobals "_law_is_step" = some (some (.ref f32)))
    (l32 : K.lookup f32 = some ⟨oc32, od32, .func (PySem.W.fnOf "_law_is_step" "_law_is_step" (defArgs s_law_is_step) (defBody s_law_is_step) (defScope s_law_is_step) .none kV32 dc32 pm32 an32 cd32 ct32), sl32⟩)
    (c32 : PySem.W.codeIn K cd32 "_law_is_step" = true) (k32 : PySem.W.keepIn K (.ref f32) = true)
    (a33 : PySem.W.nsIn K mainGlobals "_law_is_program" = some (some (.ref f33)))
    (l33 : K.lookup f33 = some ⟨oc33, od33, .func (PySem.W.fnOf "_law_is_program" "_law_is_program" (defArgs s_law_is_program) (defBody s_law_is_program) (defScope s_law_is_program) .none kV33 dc33 pm33 an33 cd33 ct33), sl33⟩)
    (c33 : PySem.W.codeIn K cd33 "_law_is_program" = true) (k33 : PySem.W.keepIn K (.ref f33) = true)
    (a34 : PySem.W.nsIn K mainGlobals "_law_odd" = some (some (.ref f34)))
    (l34 : K.lookup f34 = some ⟨oc34, od34, .func (PySem.W.fnOf "_law_odd" "_law_odd" (defArgs s_law_odd) (defBody s_law_odd) (defScope s_law_odd) .none kV34 dc34 pm34 an34 cd34 ct34), sl34⟩)
    (c34 : PySem.W.codeIn K cd34 "_law_odd" = true) (k34 : PySem.W.keepIn K (.ref f34) = true)
    (a35 : PySem.W.nsIn K mainGlobals "_law_turned_table" = some (some (.ref f35)))
    (l35 : K.lookup f35 = some ⟨oc35, od35, .func (PySem.W.fnOf "_law_turned_table" "_law_turned_table" (defArgs s_law_turned_table) (defBody s_law_turned_table) (defScope s_law_turned_table) .none kV35 dc35 pm35 an35 cd35 ct35), sl35⟩)
    (c35 : PySem.W.codeIn K cd35 "_law_turned_table" = true) (k35 : PySem.W.keepIn K (.ref f35) = true)
    (a36 : PySem.W.nsIn K mainGlobals "_law_turned" = some (some (.ref f36)))
    (l36 : K.lookup f36 = some ⟨oc36, od36, .func (PySem.W.fnOf "_law_turned" "_law_turned" (defArgs s_law_turned) (defBody s_law_turned) (defScope s_law_turned) .none kV36 dc36 pm36 an36 cd36 ct36), sl36⟩)
    (c36 : PySem.W.codeIn K cd36 "_law_turned" = true) (k36 : PySem.W.keepIn K (.ref f36) = true)
    (a37 : PySem.W.nsIn K mainGlobals "_law_spoil" = some (some (.ref f37)))
    (l37 : K.lookup f37 = some ⟨oc37, od37, .func (PySem.W.fnOf "_law_spoil" "_law_spoil" (defArgs s_law_spoil) (defBody s_law_spoil) (defScope s_law_spoil) .none kV37 dc37 pm37 an37 cd37 ct37), sl37⟩)
    (c37 : PySem.W.codeIn K cd37 "_law_spoil" = true) (k37 : PySem.W.keepIn K (.ref f37) = true)
    (a38 : PySem.W.nsIn K mainGlobals "_law_kept" = some (some (.ref f38)))
    (l38 : K.lookup f38 = some ⟨oc38, od38, .func (PySem.W.fnOf "_law_kept" "_law_kept" (defArgs s_law_kept) (defBody s_law_kept) (defScope s_law_kept) .none kV38 dc38 pm38 an38 cd38 ct38), sl38⟩)
    (c38 : PySem.W.codeIn K cd38 "_law_kept" = true) (k38 : PySem.W.keepIn K (.ref f38) = true)
    (a39 : PySem.W.nsIn K mainGlobals "_law_asked" = some (some (.ref f39)))
    (l39 : K.lookup f39 = some ⟨oc39, od39, .func (PySem.W.fnOf "_law_asked" "_law_asked" (defArgs s_law_asked) (defBody s_law_asked) (defScope s_law_asked) .none kV39 dc39 pm39 an39 cd39 ct39), sl39⟩)
    (c39 : PySem.W.codeIn K cd39 "_law_asked" = true) (k39 : PySem.W.keepIn K (.ref f39) = true)
    (a40 : PySem.W.nsIn K mainGlobals "law" = some (some (.ref f40)))
    (l40 : K.lookup f40 = some ⟨oc40, od40, .func (PySem.W.fnOf "law" "law" (defArgs s_law) (defBody s_law) (defScope s_law) .none kV40 dc40 pm40 an40 cd40 ct40), sl40⟩)
    (c40 : PySem.W.codeIn K cd40 "law" = true) (k40 : PySem.W.keepIn K (.ref f40) = true)
    (a41 : PySem.W.findIn K (.ref C_Program) "__init__" = some (some (.ref f41))) (i41 : PySem.W.isFn K (.ref f41) = true)
    (l41 : K.lookup f41 = some ⟨oc41, od41, .func (PySem.W.fnOf "__init__" "Program.__init__" (defArgs s_Program___init) (defBody s_Program___init) (defScope s_Program___init) .none kV41 dc41 pm41 an41 cd41 ct41), sl41⟩)
    (c41 : PySem.W.codeIn K cd41 "Program.__init__" = true) (k41 : PySem.W.keepIn K (.ref f41) = true)
    (a42 : PySem.W.findIn K (.ref C_Program) "__len__" = some (some (.ref f42))) (i42 : PySem.W.isFn K (.ref f42) = true)
    (l42 : K.lookup f42 = some ⟨oc42, od42, .func (PySem.W.fnOf "__len__" "Program.__len__" (defArgs s_Program___len) (defBody s_Program___len) (defScope s_Program___len) .none kV42 dc42 pm42 an42 cd42 ct42), sl42⟩)
    (c42 : PySem.W.codeIn K cd42 "Program.__len__" = true) (k42 : PySem.W.keepIn K (.ref f42) = true)
    (n_Program_modulus : PySem.W.findIn K (.ref C_Program) "modulus" = some none)
    (n_Program_cells : PySem.W.findIn K (.ref C_Program) "cells" = some none)
    (n_Program_inputs : PySem.W.findIn K (.ref C_Program) "inputs" = some none)
    (n_Program_steps : PySem.W.findIn K (.ref C_Program) "steps" = some none)
    (ih_Program : PySem.W.findIn K (.ref C_Program) "__class__" = some (some (.builtin "object.__class__"))) (im_Program : PySem.W.mroIn K C_Program (.type "object") = some true) (it_Program : PySem.W.typeIn K (.ref C_Program) = some (.type "type")) (is_Program : PySem.W.subIn K (.ref C_Program) (.ref C_Program) = some true) (sf_Program : PySem.W.selfFirst K C_Program = true)
    (z_ValueError : PySem.W.nsIn K mainGlobals "ValueError" = some none)
    (z_all : PySem.W.nsIn K mainGlobals "all" = some none)
    (z_any : PySem.W.nsIn K mainGlobals "any" = some none)
    (z_bool : PySem.W.nsIn K mainGlobals "bool" = some none)
    (z_enumerate : PySem.W.nsIn K mainGlobals "enumerate" = some none)
    (z_int : PySem.W.nsIn K mainGlobals "int" = some none)
    (z_isinstance : PySem.W.nsIn K mainGlobals "isinstance" = some none)
    (z_len : PySem.W.nsIn K mainGlobals "len" = some none)
    (z_list : PySem.W.nsIn K mainGlobals "list" = some none)
    (z_max : PySem.W.nsIn K mainGlobals "max" = some none)
    (z_min : PySem.W.nsIn K mainGlobals "min" = some none)
    (z_range : PySem.W.nsIn K mainGlobals "range" = some none)
    (z_set : PySem.W.nsIn K mainGlobals "set" = some none)
    (z_str : PySem.W.nsIn K mainGlobals "str" = some none)
    (z_tuple : PySem.W.nsIn K mainGlobals "tuple" = some none)
    (z_gcd : PySem.W.nsIn K mainGlobals "gcd" = some (some (.builtin "math.gcd")))
    (z_isqrt : PySem.W.nsIn K mainGlobals "isqrt" = some (some (.builtin "math.isqrt")))
    (z_GREATEST_MODULUS : PySem.W.nsIn K mainGlobals "GREATEST_MODULUS" = some (some (.int 1000000000 t_GREATEST_MODULUS)))
    (z_MOST_CELLS : PySem.W.nsIn K mainGlobals "MOST_CELLS" = some (some (.int 60 t_MOST_CELLS)))
    (z_MOST_FACTORS : PySem.W.nsIn K mainGlobals "MOST_FACTORS" = some (some (.int 3 t_MOST_FACTORS)))
    (z_MOST_INPUTS : PySem.W.nsIn K mainGlobals "MOST_INPUTS" = some (some (.int 60 t_MOST_INPUTS)))
    (z_MOST_STEPS : PySem.W.nsIn K mainGlobals "MOST_STEPS" = some (some (.int 20000 t_MOST_STEPS)))
    : ∃ fd : FuncData, (∀ (s : Shared) (v : Value), BindsTo s fd ⟨[v], []⟩ [("script", v)]) ∧ ∀ base : Heap, K.In base → base.Ns mainGlobals mg → FnOk l.prog w K mg base CX0 16 fa fd ["script"] (sp_law K) := by
  have e := hfa.symm.trans (PySem.W.mg_of X G a40)
  cases e
  have F0 := fun_mk (st := s_is_below) l0 c0 k0
  have b0 := F0.binds (ps := ["value", "bound"]) fun _ _ _ _ _ _ us hl => match us, hl with | [_, _], _ => rfl
  have F1 := fun_mk (st := s_is_modulus) l1 c1 k1
  have b1 := F1.binds (ps := ["value"]) fun _ _ _ _ _ _ us hl => match us, hl with | [_], _ => rfl
  have F2 := fun_mk (st := s_is_prime) l2 c2 k2
  have b2 := F2.binds (ps := ["n"]) fun _ _ _ _ _ _ us hl => match us, hl with | [_], _ => rfl
  have F3 := fun_mk (st := s_is_step) l3 c3 k3
  have b3 := F3.binds (ps := ["step", "modulus", "cells", "inputs"]) fun _ _ _ _ _ _ us hl => match us, hl with | [_, _, _, _], _ => rfl
  have F4 := fun_mk (st := s_are_factors) l4 c4 k4
  have b4 := F4.binds (ps := ["factors", "target", "cells", "inputs"]) fun _ _ _ _ _ _ us hl => match us, hl with | [_, _, _, _], _ => rfl
  have F5 := fun_mk (st := s_is_factor) l5 c5 k5
  have b5 := F5.binds (ps := ["factor", "target", "cells", "inputs"]) fun _ _ _ _ _ _ us hl => match us, hl with | [_, _, _, _], _ => rfl
  have F6 := fun_mk (st := s_are_three_cells) l6 c6 k6
  have b6 := F6.binds (ps := ["target", "a", "b", "cells"]) fun _ _ _ _ _ _ us hl => match us, hl with | [_, _, _, _], _ => rfl
  have F7 := fun_mk (st := s_is_sign) l7 c7 k7
  have b7 := F7.binds (ps := ["sign", "modulus"]) fun _ _ _ _ _ _ us hl => match us, hl with | [_, _], _ => rfl
  have F8 := fun_mk (st := s_is_table) l8 c8 k8
  have b8 := F8.binds (ps := ["table", "modulus"]) fun _ _ _ _ _ _ us hl => match us, hl with | [_, _], _ => rfl
  have F9 := fun_mk (st := s_is_row) l9 c9 k9
  have b9 := F9.binds (ps := ["row", "size", "modulus"]) fun _ _ _ _ _ _ us hl => match us, hl with | [_, _, _], _ => rfl
  have F10 := fun_mk (st := s_check_sizes) l10 c10 k10
  have b10 := F10.binds (ps := ["modulus", "cells", "inputs"]) fun _ _ _ _ _ _ us hl => match us, hl with | [_, _, _], _ => rfl
  have F11 := fun_mk (st := s_check_steps) l11 c11 k11
  have b11 := F11.binds (ps := ["steps", "modulus", "cells", "inputs"]) fun _ _ _ _ _ _ us hl => match us, hl with | [_, _, _, _], _ => rfl
  have F12 := fun_mk (st := s_law_mixed) l12 c12 k12
  have b12 := F12.binds (ps := ["number", "k"]) fun _ _ _ _ _ _ us hl => match us, hl with | [_, _], _ => rfl
  have F13 := fun_mk (st := s_law_numbers) l13 c13 k13
  have b13 := F13.binds (ps := ["script"]) fun _ _ _ _ _ _ us hl => match us, hl with | [_], _ => rfl
  have F14 := fun_mk (st := s_law_draw) l14 c14 k14
  have b14 := F14.binds (ps := ["draws"]) fun _ _ _ _ _ _ us hl => match us, hl with | [_], _ => rfl
  have F15 := fun_mk (st := s_law_equal) l15 c15 k15
  have b15 := F15.binds (ps := ["actual", "due"]) fun _ _ _ _ _ _ us hl => match us, hl with | [_, _], _ => rfl
  have F16 := fun_mk (st := s_law_all_equal) l16 c16 k16
  have b16 := F16.binds (ps := ["actual", "due"]) fun _ _ _ _ _ _ us hl => match us, hl with | [_, _], _ => rfl
  have F17 := fun_mk (st := s_law_large) l17 c17 k17
  have b17 := F17.binds (ps := ["draws", "bound"]) fun _ _ _ _ _ _ us hl => match us, hl with | [_, _], _ => rfl
  have F18 := fun_mk (st := s_law_modulus) l18 c18 k18
  have b18 := F18.binds (ps := ["draws"]) fun _ _ _ _ _ _ us hl => match us, hl with | [_], _ => rfl
  have F19 := fun_mk (st := s_law_number) l19 c19 k19
  have b19 := F19.binds (ps := ["draws", "modulus"]) fun _ _ _ _ _ _ us hl => match us, hl with | [_, _], _ => rfl
  have F20 := fun_mk (st := s_law_gcd) l20 c20 k20
  have b20 := F20.binds (ps := ["one", "two"]) fun _ _ _ _ _ _ us hl => match us, hl with | [_, _], _ => rfl
  have F21 := fun_mk (st := s_law_unit) l21 c21 k21
  have b21 := F21.binds (ps := ["draws", "modulus"]) fun _ _ _ _ _ _ us hl => match us, hl with | [_, _], _ => rfl
  have F22 := fun_mk (st := s_law_integer) l22 c22 k22
  have b22 := F22.binds (ps := ["number", "low", "high"]) fun _ _ _ _ _ _ us hl => match us, hl with | [_, _, _], _ => rfl
  have F23 := fun_mk (st := s_law_prime_modulus) l23 c23 k23
  have b23 := F23.binds (ps := ["number"]) fun _ _ _ _ _ _ us hl => match us, hl with | [_], _ => rfl
  have F24 := fun_mk (st := s_law_prime) l24 c24 k24
  have b24 := F24.binds (ps := ["draws"]) fun _ _ _ _ _ _ us hl => match us, hl with | [_], _ => rfl
  have F25 := fun_mk (st := s_law_table) l25 c25 k25
  have b25 := F25.binds (ps := ["draws", "prime"]) fun _ _ _ _ _ _ us hl => match us, hl with | [_, _], _ => rfl
  have F26 := fun_mk (st := s_law_factor) l26 c26 k26
  have b26 := F26.binds (ps := ["draws", "target", "cells", "inputs"]) fun _ _ _ _ _ _ us hl => match us, hl with | [_, _, _, _], _ => rfl
  have F27 := fun_mk (st := s_law_step) l27 c27 k27
  have b27 := F27.binds (ps := ["draws", "modulus", "cells", "inputs", "prime"]) fun _ _ _ _ _ _ us hl => match us, hl with | [_, _, _, _, _], _ => rfl
  have F28 := fun_mk (st := s_law_program) l28 c28 k28
  have b28 := F28.binds (ps := ["draws", "most"]) fun _ _ _ _ _ _ us hl => match us, hl with | [_, _], _ => rfl
  have F29 := fun_mk (st := s_law_is_factor) l29 c29 k29
  have b29 := F29.binds (ps := ["factor", "target", "cells", "inputs"]) fun _ _ _ _ _ _ us hl => match us, hl with | [_, _, _, _], _ => rfl
  have F30 := fun_mk (st := s_law_is_table) l30 c30 k30
  have b30 := F30.binds (ps := ["table", "modulus"]) fun _ _ _ _ _ _ us hl => match us, hl with | [_, _], _ => rfl
  have F31 := fun_mk (st := s_law_is_add) l31 c31 k31
  have b31 := F31.binds (ps := ["step", "modulus", "cells", "inputs"]) fun _ _ _ _ _ _ us hl => match us, hl with | [_, _, _, _], _ => rfl
  have F32 := fun_mk (st := s_law_is_step) l32 c32 k32
  have b32 := F32.binds (ps := ["step", "modulus", "cells", "inputs", "prime"]) fun _ _ _ _ _ _ us hl => match us, hl with | [_, _, _, _, _], _ => rfl
  have F33 := fun_mk (st := s_law_is_program) l33 c33 k33
  have b33 := F33.binds (ps := ["modulus", "cells", "inputs", "steps"]) fun _ _ _ _ _ _ us hl => match us, hl with | [_, _, _, _], _ => rfl
  have F34 := fun_mk (st := s_law_odd) l34 c34 k34
  have b34 := F34.binds (ps := ["draws", "model"]) fun _ _ _ _ _ _ us hl => match us, hl with | [_, _], _ => rfl
  have F35 := fun_mk (st := s_law_turned_table) l35 c35 k35
  have b35 := F35.binds (ps := ["draws", "model", "table"]) fun _ _ _ _ _ _ us hl => match us, hl with | [_, _, _], _ => rfl
  have F36 := fun_mk (st := s_law_turned) l36 c36 k36
  have b36 := F36.binds (ps := ["draws", "model", "step"]) fun _ _ _ _ _ _ us hl => match us, hl with | [_, _, _], _ => rfl
  have F37 := fun_mk (st := s_law_spoil) l37 c37 k37
  have b37 := F37.binds (ps := ["draws", "model"]) fun _ _ _ _ _ _ us hl => match us, hl with | [_, _], _ => rfl
  have F38 := fun_mk (st := s_law_kept) l38 c38 k38
  have b38 := F38.binds (ps := ["program", "model", "steps"]) fun _ _ _ _ _ _ us hl => match us, hl with | [_, _, _], _ => rfl
  have F39 := fun_mk (st := s_law_asked) l39 c39 k39
  have b39 := F39.binds (ps := ["model"]) fun _ _ _ _ _ _ us hl => match us, hl with | [_], _ => rfl
  have F40 := fun_mk (st := s_law) l40 c40 k40
  have b40 := F40.binds (ps := ["script"]) fun _ _ _ _ _ _ us hl => match us, hl with | [_], _ => rfl
  have F41 := fun_mk (st := s_Program___init) l41 c41 k41
  have b41 := F41.binds (ps := ["self", "modulus", "cells", "inputs", "steps"]) fun _ _ _ _ _ _ us hl => match us, hl with | [_, _, _, _, _], _ => rfl
  have F42 := fun_mk (st := s_Program___len) l42 c42 k42
  have b42 := F42.binds (ps := ["self"]) fun _ _ _ _ _ _ us hl => match us, hl with | [_], _ => rfl
  exact ⟨PySem.W.fnOf "law" "law" (defArgs s_law) (defBody s_law) (defScope s_law) .none kV40 dc40 pm40 an40 cd40 ct40, fun s v => .of_eq rfl, fun base _ _ => ok_law (⟨_, _, F0, b0, PySem.W.mg_of X G a0, _, _, F1, b1, PySem.W.mg_of X G a1, _, _, F2, b2, PySem.W.mg_of X G a2, _, _, F3, b3, PySem.W.mg_of X G a3, _, _, F4, b4, PySem.W.mg_of X G a4, _, _, F5, b5, PySem.W.mg_of X G a5, _, _, F6, b6, PySem.W.mg_of X G a6, _, _, F7, b7, PySem.W.mg_of X G a7, _, _, F8, b8, PySem.W.mg_of X G a8, _, _, F9, b9, PySem.W.mg_of X G a9, _, _, F10, b10, PySem.W.mg_of X G a10, _, _, F11, b11, PySem.W.mg_of X G a11, _, _, F12, b12, PySem.W.mg_of X G a12, _, _, F13, b13, PySem.W.mg_of X G a13, _, _, F14, b14, PySem.W.mg_of X G a14, _, _, F15, b15, PySem.W.mg_of X G a15, _, _, F16, b16, PySem.W.mg_of X G a16, _, _, F17, b17, PySem.W.mg_of X G a17, _, _, F18, b18, PySem.W.mg_of X G a18, _, _, F19, b19, PySem.W.mg_of X G a19, _, _, F20, b20, PySem.W.mg_of X G a20, _, _, F21, b21, PySem.W.mg_of X G a21, _, _, F22, b22, PySem.W.mg_of X G a22, _, _, F23, b23, PySem.W.mg_of X G a23, _, _, F24, b24, PySem.W.mg_of X G a24, _, _, F25, b25, PySem.W.mg_of X G a25, _, _, F26, b26, PySem.W.mg_of X G a26, _, _, F27, b27, PySem.W.mg_of X G a27, _, _, F28, b28, PySem.W.mg_of X G a28, _, _, F29, b29, PySem.W.mg_of X G a29, _, _, F30, b30, PySem.W.mg_of X G a30, _, _, F31, b31, PySem.W.mg_of X G a31, _, _, F32, b32, PySem.W.mg_of X G a32, _, _, F33, b33, PySem.W.mg_of X G a33, _, _, F34, b34, PySem.W.mg_of X G a34, _, _, F35, b35, PySem.W.mg_of X G a35, _, _, F36, b36, PySem.W.mg_of X G a36, _, _, F37, b37, PySem.W.mg_of X G a37, _, _, F38, b38, PySem.W.mg_of X G a38, _, _, F39, b39, PySem.W.mg_of X G a39, _, _, F40, b40, PySem.W.mg_of X G a40, _, _, F41, b41, _, _, F42, b42, C_Program, ⟨pg_Program, hd_Program, po_Program, sa_Program⟩, PySem.W.mg_of X G aC_Program, n_Program_modulus, n_Program_cells, n_Program_inputs, n_Program_steps, ⟨⟨pg_Program, hd_Program, po_Program, sa_Program⟩, ih_Program, hnE, htE, im_Program, kit_ref hd_Program it_Program is_Program is_Program⟩, sf_Program, ⟨mk_Program, a41, i41, kc_Program⟩, ⟨a42, i42, k42⟩, E_BrimfulError, PySem.W.mg_of X G aE_BrimfulError, xE_BrimfulError, kE_BrimfulError, bE_BrimfulError, tE_BrimfulError, dE_BrimfulError, ⟨h1E_BrimfulError, h2E_BrimfulError, bE_BrimfulError, dE_BrimfulError, h3E_BrimfulError, hnE, htE, h4E_BrimfulError⟩, E_BadStep, PySem.W.mg_of X G aE_BadStep, xE_BadStep, kE_BadStep, bE_BadStep, tE_BadStep, dE_BadStep, ⟨h1E_BadStep, h2E_BadStep, bE_BadStep, dE_BadStep, h3E_BadStep, hnE, htE, h4E_BadStep⟩, E_BadMemory, PySem.W.mg_of X G aE_BadMemory, xE_BadMemory, kE_BadMemory, bE_BadMemory, tE_BadMemory, dE_BadMemory, ⟨h1E_BadMemory, h2E_BadMemory, bE_BadMemory, dE_BadMemory, h3E_BadMemory, hnE, htE, h4E_BadMemory⟩, vE_BrimfulError, vE_BadStep, vE_BadMemory, sE_BrimfulError_BrimfulError, sE_BrimfulError_BadStep, sE_BrimfulError_BadMemory, sE_BadStep_BrimfulError, sE_BadStep_BadStep, sE_BadStep_BadMemory, sE_BadMemory_BrimfulError, sE_BadMemory_BadStep, sE_BadMemory_BadMemory, PySem.W.mg_none_of X G z_ValueError, PySem.W.mg_none_of X G z_all, PySem.W.mg_none_of X G z_any, PySem.W.mg_none_of X G z_bool, PySem.W.mg_none_of X G z_enumerate, PySem.W.mg_none_of X G z_int, PySem.W.mg_none_of X G z_isinstance, PySem.W.mg_none_of X G z_len, PySem.W.mg_none_of X G z_list, PySem.W.mg_none_of X G z_max, PySem.W.mg_none_of X G z_min, PySem.W.mg_none_of X G z_range, PySem.W.mg_none_of X G z_set, PySem.W.mg_none_of X G z_str, PySem.W.mg_none_of X G z_tuple, PySem.W.mg_of X G z_gcd, PySem.W.mg_of X G z_isqrt, _, PySem.W.mg_of X G z_GREATEST_MODULUS, _, PySem.W.mg_of X G z_MOST_CELLS, _, PySem.W.mg_of X G z_MOST_FACTORS, _, PySem.W.mg_of X G z_MOST_INPUTS, _, PySem.W.mg_of X G z_MOST_STEPS⟩ : Txt K mg)⟩
end
end Br
open PySem PySem.W PyProof.Rows
set_option maxRecDepth 100000 in
set_option maxHeartbeats 0 in
theorem PySem.Challenge.cw_brimful_k04_programs_are_checked_holds : PySem.Challenge.rw_brimful_k04_programs_are_checked.Holds := by
  w_on; o_law; k_head; (case hw => w_witness2)
  k_fill
  refine L2.walk_of (l := PySem.Challenge.rw_brimful_k04_programs_are_checked) (n := 63) (k := 16) (x := "script") (CX := fun _ => L2.CX0) (sp := fun w => Br.sp_law _) rfl (by decide) rfl ⟨rfl, by decide, by decide⟩ (fun w h Y => PySem.W.kIn_of Y) ?F (fun _ _ a ns hl _ hS => ⟨a, ns, rfl, hS, hl, fun _ => rfl⟩) (fun _ _ _ _ _ h => h)
  case F =>
    intro w mg fa h KX G hmg
    refine' Br.all_mk KX G hmg ?aC_Program ?pg_Program ?hd_Program ?po_Program ?sa_Program ?mk_Program ?kc_Program ?hnE ?htE ?aE_BrimfulError ?xE_BrimfulError ?kE_BrimfulError ?bE_BrimfulError ?tE_BrimfulError ?dE_BrimfulError ?h1E_BrimfulError ?h2E_BrimfulError ?h3E_BrimfulError ?h4E_BrimfulError ?aE_BadStep ?xE_BadStep ?kE_BadStep ?bE_BadStep ?tE_BadStep ?dE_BadStep ?h1E_BadStep ?h2E_BadStep ?h3E_BadStep ?h4E_BadStep ?aE_BadMemory ?xE_BadMemory ?kE_BadMemory ?bE_BadMemory ?tE_BadMemory ?dE_BadMemory ?h1E_BadMemory ?h2E_BadMemory ?h3E_BadMemory ?h4E_BadMemory ?vE_BrimfulError ?vE_BadStep ?vE_BadMemory ?sE_BrimfulError_BrimfulError ?sE_BrimfulError_BadStep ?sE_BrimfulError_BadMemory ?sE_BadStep_BrimfulError ?sE_BadStep_BadStep ?sE_BadStep_BadMemory ?sE_BadMemory_BrimfulError ?sE_BadMemory_BadStep ?sE_BadMemory_BadMemory ?a0 ?l0 ?c0 ?k0 ?a1 ?l1 ?c1 ?k1 ?a2 ?l2 ?c2 ?k2 ?a3 ?l3 ?c3 ?k3 ?a4 ?l4 ?c4 ?k4 ?a5 ?l5 ?c5 ?k5 ?a6 ?l6 ?c6 ?k6 ?a7 ?l7 ?c7 ?k7 ?a8 ?l8 ?c8 ?k8 ?a9 ?l9 ?c9 ?k9 ?a10 ?l10 ?c10 ?k10 ?a11 ?l11 ?c11 ?k11 ?a12 ?l12 ?c12 ?k12 ?a13 ?l13 ?c13 ?k13 ?a14 ?l14 ?c14 ?k14 ?a15 ?l15 ?c15 ?k15 ?a16 ?l16 ?c16 ?k16 ?a17 ?l17 ?c17 ?k17 ?a18 ?l18 ?c18 ?k18 ?a19 ?l19 ?c19 ?k19 ?a20 ?l20 ?c20 ?k20 ?a21 ?l21 ?c21 ?k21 ?a22 ?l22 ?c22 ?k22 ?a23 ?l23 ?c23 ?k23 ?a24 ?l24 ?c24 ?k24 ?a25 ?l25 ?c25 ?k25 ?a26 ?l26 ?c26 ?k26 ?a27 ?l27 ?c27 ?k27 ?a28 ?l28 ?c28 ?k28 ?a29 ?l29 ?c29 ?k29 ?a30 ?l30 ?c30 ?k30 ?a31 ?l31 ?c31 ?k31 ?a32 ?l32 ?c32 ?k32 ?a33 ?l33 ?c33 ?k33 ?a34 ?l34 ?c34 ?k34 ?a35 ?l35 ?c35 ?k35 ?a36 ?l36 ?c36 ?k36 ?a37 ?l37 ?c37 ?k37 ?a38 ?l38 ?c38 ?k38 ?a39 ?l39 ?c39 ?k39 ?a40 ?l40 ?c40 ?k40 ?a41 ?i41 ?l41 ?c41 ?k41 ?a42 ?i42 ?l42 ?c42 ?k42 ?n_Program_modulus ?n_Program_cells ?n_Program_inputs ?n_Program_steps ?ih_Program ?im_Program ?it_Program ?is_Program ?sf_Program ?z_ValueError ?z_all ?z_any ?z_bool ?z_enumerate ?z_int ?z_isinstance ?z_len ?z_list ?z_max ?z_min ?z_range ?z_set ?z_str ?z_tuple ?z_gcd ?z_isqrt ?z_GREATEST_MODULUS ?z_MOST_CELLS ?z_MOST_FACTORS ?z_MOST_INPUTS ?z_MOST_STEPS
    (case aC_Program => k_is)
    (case pg_Program => k_is)
    (case hd_Program => k_is)
    (case po_Program => k_is)
    (case sa_Program => k_is)
    (case mk_Program => k_is)
    (case kc_Program => k_is)
    (case hnE => k_is)
    (case htE => k_is)
    (case aE_BrimfulError => k_is)
    (case xE_BrimfulError => k_exc)
    (case kE_BrimfulError => k_is)
    (case bE_BrimfulError => k_is)
    (case tE_BrimfulError => k_is)
    (case dE_BrimfulError => k_is)
    (case h1E_BrimfulError => k_is)
    (case h2E_BrimfulError => k_is)
    (case h3E_BrimfulError => k_is)
    (case h4E_BrimfulError => k_is)
    (case aE_BadStep => k_is)
    (case xE_BadStep => k_exc)
    (case kE_BadStep => k_is)
    (case bE_BadStep => k_is)
    (case tE_BadStep => k_is)
    (case dE_BadStep => k_is)
    (case h1E_BadStep => k_is)
    (case h2E_BadStep => k_is)
    (case h3E_BadStep => k_is)
    (case h4E_BadStep => k_is)
    (case aE_BadMemory => k_is)
    (case xE_BadMemory => k_exc)
    (case kE_BadMemory => k_is)
    (case bE_BadMemory => k_is)
    (case tE_BadMemory => k_is)
    (case dE_BadMemory => k_is)
    (case h1E_BadMemory => k_is)
    (case h2E_BadMemory => k_is)
    (case h3E_BadMemory => k_is)
    (case h4E_BadMemory => k_is)
    (case vE_BrimfulError => k_is)
    (case vE_BadStep => k_is)
    (case vE_BadMemory => k_is)
    (case sE_BrimfulError_BrimfulError => first | rfl | k_is)
    (case sE_BrimfulError_BadStep => first | rfl | k_is)
    (case sE_BrimfulError_BadMemory => first | rfl | k_is)
    (case sE_BadStep_BrimfulError => first | rfl | k_is)
    (case sE_BadStep_BadStep => first | rfl | k_is)
    (case sE_BadStep_BadMemory => first | rfl | k_is)
    (case sE_BadMemory_BrimfulError => first | rfl | k_is)
    (case sE_BadMemory_BadStep => first | rfl | k_is)
    (case sE_BadMemory_BadMemory => first | rfl | k_is)
    (case a0 => k_is)
    (case l0 => k_is)
    (case c0 => k_is)
    (case k0 => k_is)
    (case a1 => k_is)
    (case l1 => k_is)
    (case c1 => k_is)
    (case k1 => k_is)
    (case a2 => k_is)
    (case l2 => k_is)
    (case c2 => k_is)
    (case k2 => k_is)
    (case a3 => k_is)
    (case l3 => k_is)
    (case c3 => k_is)
    (case k3 => k_is)
    (case a4 => k_is)
    (case l4 => k_is)
    (case c4 => k_is)
    (case k4 => k_is)
    (case a5 => k_is)
    (case l5 => k_is)
    (case c5 => k_is)
    (case k5 => k_is)
    (case a6 => k_is)
    (case l6 => k_is)
    (case c6 => k_is)
    (case k6 => k_is)
    (case a7 => k_is)
    (case l7 => k_is)
    (case c7 => k_is)
    (case k7 => k_is)
    (case a8 => k_is)
    (case l8 => k_is)
    (case c8 => k_is)
    (case k8 => k_is)
    (case a9 => k_is)
    (case l9 => k_is)
    (case c9 => k_is)
    (case k9 => k_is)
    (case a10 => k_is)
    (case l10 => k_is)
    (case c10 => k_is)
    (case k10 => k_is)
    (case a11 => k_is)
    (case l11 => k_is)
    (case c11 => k_is)
    (case k11 => k_is)
    (case a12 => k_is)
    (case l12 => k_is)
    (case c12 => k_is)
    (case k12 => k_is)
    (case a13 => k_is)
    (case l13 => k_is)
    (case c13 => k_is)
    (case k13 => k_is)
    (case a14 => k_is)
    (case l14 => k_is)
    (case c14 => k_is)
    (case k14 => k_is)
    (case a15 => k_is)
    (case l15 => k_is)
    (case c15 => k_is)
    (case k15 => k_is)
    (case a16 => k_is)
    (case l16 => k_is)
    (case c16 => k_is)
    (case k16 => k_is)
    (case a17 => k_is)
    (case l17 => k_is)
    (case c17 => k_is)
    (case k17 => k_is)
    (case a18 => k_is)
    (case l18 => k_is)
    (case c18 => k_is)
    (case k18 => k_is)
    (case a19 => k_is)
    (case l19 => k_is)
    (case c19 => k_is)
    (case k19 => k_is)
    (case a20 => k_is)
    (case l20 => k_is)
    (case c20 => k_is)
    (case k20 => k_is)
    (case a21 => k_is)
    (case l21 => k_is)
    (case c21 => k_is)
    (case k21 => k_is)
    (case a22 => k_is)
    (case l22 => k_is)
    (case c22 => k_is)
    (case k22 => k_is)
    (case a23 => k_is)
    (case l23 => k_is)
    (case c23 => k_is)
    (case k23 => k_is)
    (case a24 => k_is)
    (case l24 => k_is)
    (case c24 => k_is)
    (case k24 => k_is)
    (case a25 => k_is)
    (case l25 => k_is)
    (case c25 => k_is)
    (case k25 => k_is)
    (case a26 => k_is)
    (case l26 => k_is)
    (case c26 => k_is)
    (case k26 => k_is)
    (case a27 => k_is)
    (case l27 => k_is)
    (case c27 => k_is)
    (case k27 => k_is)
    (case a28 => k_is)
    (case l28 => k_is)
    (case c28 => k_is)
    (case k28 => k_is)
    (case a29 => k_is)
    (case l29 => k_is)
    (case c29 => k_is)
    (case k29 => k_is)
    (case a30 => k_is)
    (case l30 => k_is)
    (case c30 => k_is)
    (case k30 => k_is)
    (case a31 => k_is)
    (case l31 => k_is)
    (case c31 => k_is)
    (case k31 => k_is)
    (case a32 => k_is)
    (case l32 => k_is)
    (case c32 => k_is)
    (case k32 => k_is)
    (case a33 => k_is)
    (case l33 => k_is)
    (case c33 => k_is)
    (case k33 => k_is)
    (case a34 => k_is)
    (case l34 => k_is)
    (case c34 => k_is)
    (case k34 => k_is)
    (case a35 => k_is)
    (case l35 => k_is)
    (case c35 => k_is)
    (case k35 => k_is)
    (case a36 => k_is)
    (case l36 => k_is)
    (case c36 => k_is)
    (case k36 => k_is)
    (case a37 => k_is)
    (case l37 => k_is)
    (case c37 => k_is)
    (case k37 => k_is)
    (case a38 => k_is)
    (case l38 => k_is)
    (case c38 => k_is)
    (case k38 => k_is)
    (case a39 => k_is)
    (case l39 => k_is)
    (case c39 => k_is)
    (case k39 => k_is)
    (case a40 => k_is)
    (case l40 => k_is)
    (case c40 => k_is)
    (case k40 => k_is)
    (case a41 => k_is)
    (case i41 => k_is)
    (case l41 => k_is)
    (case c41 => k_is)
    (case k41 => k_is)
    (case a42 => k_is)
    (case i42 => k_is)
    (case l42 => k_is)
    (case c42 => k_is)
    (case k42 => k_is)
    (case n_Program_modulus => k_is)
    (case n_Program_cells => k_is)
    (case n_Program_inputs => k_is)
    (case n_Program_steps => k_is)
    (case ih_Program => k_is)
    (case im_Program => k_is)
    (case it_Program => k_is)
    (case is_Program => k_is)
    (case sf_Program => k_is)
    (case z_ValueError => k_is)
    (case z_all => k_is)
    (case z_any => k_is)
    (case z_bool => k_is)
    (case z_enumerate => k_is)
    (case z_int => k_is)
    (case z_isinstance => k_is)
    (case z_len => k_is)
    (case z_list => k_is)
    (case z_max => k_is)
    (case z_min => k_is)
    (case z_range => k_is)
    (case z_set => k_is)
    (case z_str => k_is)
    (case z_tuple => k_is)
    (case z_gcd => k_is)
    (case z_isqrt => k_is)
    (case z_GREATEST_MODULUS => k_is)
    (case z_MOST_CELLS => k_is)
    (case z_MOST_FACTORS => k_is)
    (case z_MOST_INPUTS => k_is)
    (case z_MOST_STEPS => k_is)
