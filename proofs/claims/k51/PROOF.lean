import PyProof.Rows.All
import Wide.All
import OpenK.AllK
import Wide.FinOn
import HandS.ForMost
import HandS.Gcd
import HandS.Wide
import HandS.IsInst
import HandS.Steps
import HandS.SortKw
import HandS.Style
import HandS.Star
import HandS.SetFor
import HandS.TupAny
import PyProof.SetRoads
import PyProof.Rows.SetFrom
import KE.DataMinMax
import HandS.Evl
import HandS.Walk
import HandS.ForExc
import HandS.ExcIs
import HandS.RaiseMore
import HandS.Codes
import HandS.Flt
import HandS.FStr
import KE.GoesEnum
import PyProof.Rows.MatchSeqLen
import Flt.RightSqrt
import HandS.Strs
import HandS.Property
import HandS.More
import PySem.Challenge.RW_brimful_k51_loans_are_checked
set_option Elab.async false
set_option linter.all false
set_option maxRecDepth 100000
set_option maxHeartbeats 4000000

namespace Br
open PySem PySem.Spec PyProof.Rows L2

/-! ### readings with names -/
def rLen (K : PySem.W.Frag) : List V → Hp → VK → Prop := fun xs H Q => ∃ p ys, xs = [.ref p] ∧ (SqL K H p ys ∨ SqT K H p ys) ∧ Q (.int ys.length) H
theorem cr_len {X : Cx} : CallR X (.builtin "len") (rLen X.K) := call_len_seq
def rInt1 : List V → Hp → VK → Prop := fun xs H Q => (∃ i, xs = [.int i] ∧ Q (.int i) H) ∨ ∃ k, xs = [.bl k] ∧ Q (.int (if k then 1 else 0)) H
theorem cr_int1 {X : Cx} : CallR X (.type "int") rInt1 := call_int1
def rMin2 : List V → Hp → VK → Prop := fun xs H Q => ∃ i j, xs = [.int i, .int j] ∧ Q (.int (if j < i then j else i)) H
theorem cr_min2 {X : Cx} (hc : X.calm = true) : CallR X (.builtin "min") rMin2 := call_min2 hc
def rMax2 : List V → Hp → VK → Prop := fun xs H Q => ∃ i j, xs = [.int i, .int j] ∧ Q (.int (if j > i then j else i)) H
theorem cr_max2 {X : Cx} (hc : X.calm = true) : CallR X (.builtin "max") rMax2 := call_max2 hc
def rListOf (K : PySem.W.Frag) : List V → Hp → VK → Prop := fun xs H Q => ∃ p ys, xs = [.ref p] ∧ (SqL K H p ys ∨ SqT K H p ys) ∧ ∀ l, H l = none → Q (.ref l) (upd H l (.lst ys))
theorem cr_list_of {X : Cx} : CallR X (.type "list") (rListOf X.K) := call_list_of
def rTupOf (K : PySem.W.Frag) : List V → Hp → VK → Prop := fun xs H Q => ∃ p ys, xs = [.ref p] ∧ ((SqL K H p ys ∧ ∀ l, H l = none → Q (.ref l) (upd H l (.tup ys))) ∨ (SqT K H p ys ∧ Q (.ref p) H))
theorem cr_tup_of {X : Cx} : CallR X (.type "tuple") (rTupOf X.K) := call_tuple_of
def cr_isqrt_r : List V → Hp → VK → Prop := fun vs H Q => ∃ i : Int, vs = [.int i] ∧ 0 ≤ i ∧ i < 2 ^ 64 ∧ Q (.int ((Float64.isqrt i.toNat : Nat) : Int)) H
/-! ### steps of a reading -/
section
variable {σ : L2.St} {H : Hp} {D : Ends} {Q : VK} {QT : Bool → Hp → Prop} {QA : List V → Hp → Prop} {K : PySem.W.Frag}
theorem x_seq {a u : TS} (h : a ⟨u D, D.rt, D.bk, D.ct⟩ σ H) : tSeq a u D σ H := h
theorem x_cut {a u : TS} (M : L2.St → Hp → Prop) (h : a ⟨M, D.rt, D.bk, D.ct⟩ σ H) (k : ∀ σ' H', M σ' H' → u D σ' H') : Evl.tCut a u D σ H := ⟨M, h, k⟩
theorem x_next (h : D.nx σ H) : tNext D σ H := h
theorem x_set {te : TE} {i : Nat} (h : te σ H fun x H1 => D.nx (σ.set i (some x)) H1) : tAsg te (gName i) D σ H := h
theorem x_asg {te : TE} {g : TG} (h : te σ H fun x H1 => g x σ H1 D.nx) : tAsg te g D σ H := h
/-- what a field's reading asks of the object -/
def FldR (K : PySem.W.Frag) (f : Str) (x : V) (H : Hp) (Q : VK) : Prop := ∃ a C dx fs v, x = .ref a ∧ H a = some (.ins C dx fs) ∧ Cls K C ∧ NoAttr K C f ∧ fs.lookup f = some v ∧ Q v H
theorem x_fld {ta : TE} {f : Str} (h : ta σ H fun x H1 => FldR K f x H1 Q) : tFld K ta f σ H Q := h
theorem x_fldR {a C dx : Addr} {fs : List (Str × V)} {f : Str} {v : V} (h : H a = some (.ins C dx fs)) (c : Cls K C) (n : NoAttr K C f) (l : fs.lookup f = some v) (q : Q v H) : FldR K f (.ref a) H Q := ⟨a, C, dx, fs, v, rfl, h, c, n, l, q⟩
/-- what storing a field asks -/
def FldS (K : PySem.W.Frag) (f : Str) (y x : V) (H : Hp) (R : Hp → Prop) : Prop := ∃ a C dx fs, x = .ref a ∧ H a = some (.ins C dx fs) ∧ Cls K C ∧ NoAttr K C f ∧ fs.length < 1000 ∧ R (upd H a (.ins C dx (putF f y fs)))
theorem x_fldS {ta tv : TE} {f : Str} (h : tv σ H fun y H1 => ta σ H1 fun x H2 => FldS K f y x H2 fun H3 => D.nx σ H3) : sFld K ta tv f D σ H := h
theorem x_gName {i : Nat} {v : V} {R : L2.St → Hp → Prop} (h : R (σ.set i (some v)) H) : gName i v σ H R := h
theorem x_par {i j : Nat} {ta tb : TE} (h : ta σ H fun x H1 => tb σ H1 fun y H2 => D.nx ((σ.set i (some x)).set j (some y)) H2) : tPar i j (tCons ta (tCons tb tNil)) D σ H :=
  (congrArg (fun (f : (V → Hp → Prop)) => ta σ H f) (funext fun x => funext fun H1 => congrArg (fun (f : (V → Hp → Prop)) => tb σ H1 f) (funext fun y => funext fun H2 => propext
    ⟨fun h => ⟨x, y, rfl, h⟩, fun ⟨v, w, e, h⟩ => by cases e; exact h⟩))).mp h
theorem x_ret {te : TE} (h : te σ H D.rt) : tRet te D σ H := h
theorem x_retN (h : D.rt .non H) : tRetN D σ H := h
theorem x_drop {te : TE} (h : te σ H fun _ H1 => D.nx σ H1) : tDrop te D σ H := h
theorem x_if {c : TT} {t u : TS} (h : c σ H fun b H1 => if b = true then t D σ H1 else u D σ H1) : tIfS c t u D σ H := h
theorem x_brk (h : D.bk σ H) : tBreak D σ H := h
theorem x_cont (h : D.ct σ H) : tCont D σ H := h
theorem x_var {i : Nat} {v : V} (h : σ[i]? = some (some v)) (q : Q v H) : tVar i σ H Q := ⟨v, h, q⟩
theorem x_c {v : V} (q : Q v H) : tC v σ H Q := q
theorem x_op {r : R2} {ta tb : TE} (h : ta σ H fun x H1 => tb σ H1 fun y H2 => r x y H2 Q) : tOp r ta tb σ H Q := h
theorem x_un {r : V → Hp → VK → Prop} {ta : TE} (h : ta σ H fun x H1 => r x H1 Q) : tUn r ta σ H Q := h
theorem x_I0 {g : Int → Int → V} {i j : Int} (q : Q (g i j) H) : rI0 g (.int i) (.int j) H Q := ⟨i, j, rfl, rfl, q⟩
theorem x_I {C : Int → Int → Prop} {g : Int → Int → V} {i j : Int} (c : C i j) (q : Q (g i j) H) : rI C g (.int i) (.int j) H Q := ⟨i, j, rfl, rfl, c, q⟩
theorem x_U {g : Int → V} {i : Int} (q : Q (g i) H) : rU g (.int i) H Q := ⟨i, rfl, q⟩
theorem v_int {i j : Int} : decide (V.int i = V.int j) = decide (i = j) := decide_eq_decide.mpr ⟨fun h => V.int.inj h, fun h => h ▸ rfl⟩
theorem x_EqI {i j : Int} (q : Q (.bl (decide (i = j))) H) : rEq (.int i) (.int j) H Q := ⟨rfl, v_int ▸ q⟩
theorem x_NeI {i j : Int} (q : Q (.bl (!decide (i = j))) H) : rNe (.int i) (.int j) H Q := ⟨rfl, by rw [v_int]; exact q⟩
theorem x_EqB {i j : Bool} (q : Q (.bl (decide (i = j))) H) : rEq (.bl i) (.bl j) H Q := ⟨rfl, by
  have e : decide (V.bl i = V.bl j) = decide (i = j) := decide_eq_decide.mpr ⟨fun h => V.bl.inj h, fun h => h ▸ rfl⟩
  rw [e]; exact q⟩
theorem x_Eq {x y : V} (s : scal x y = true) (q : Q (.bl (decide (x = y))) H) : rEq x y H Q := ⟨s, q⟩
theorem x_Ne {x y : V} (s : scal x y = true) (q : Q (.bl (!decide (x = y))) H) : rNe x y H Q := ⟨s, q⟩
theorem x_isN {x : V} (q : Q (.bl (decide (x = .non))) H) : (fun (x y : V) (H : Hp) (Q : VK) => y = V.non ∧ Q (.bl (decide (x = .non))) H) x .non H Q := ⟨rfl, q⟩
theorem x_ifE {t : TT} {ta tb : TE} (h : t σ H fun c H1 => if c = true then ta σ H1 Q else tb σ H1 Q) : tIf t ta tb σ H Q := h
theorem x_test {te : TE} {b : Unit} (h : te σ H fun x H1 => ∃ k, x = .bl k ∧ QT k H1) : tTest te σ H QT := h
theorem x_tB {te : TE} (h : te σ H fun x H1 => ∃ k, x = .bl k ∧ QT k H1) : tB te σ H QT := h
theorem x_bl {k : Bool} (q : QT k H) : ∃ k', V.bl k = .bl k' ∧ QT k' H := ⟨k, rfl, q⟩
theorem x_and {t u : TT} (h : t σ H fun c H1 => if c = true then u σ H1 QT else QT false H1) : tAnd t u σ H QT := h
theorem x_or {t u : TT} (h : t σ H fun c H1 => if c = true then QT true H1 else u σ H1 QT) : tOr t u σ H QT := h
theorem x_not {t : TT} (h : t σ H fun c H1 => QT (!c) H1) : tNot t σ H QT := h
theorem x_andV {ta tb : TE} (h : ta σ H fun x H1 => ∃ c, x = .bl c ∧ if c = true then tb σ H1 Q else Q (.bl false) H1) : tAndV ta tb σ H Q := h
theorem x_orV {ta tb : TE} (h : ta σ H fun x H1 => ∃ c, x = .bl c ∧ if c = true then Q (.bl true) H1 else tb σ H1 Q) : tOrV ta tb σ H Q := h
theorem x_notV {ta : TE} (h : ta σ H fun x H1 => ∃ c, x = .bl c ∧ Q (.bl (!c)) H1) : tNotV ta σ H Q := h
theorem x_blP {k : Bool} {P : Bool → Prop} (q : P k) : ∃ k', V.bl k = .bl k' ∧ P k' := ⟨k, rfl, q⟩
theorem x_nil (q : QA [] H) : tNil σ H QA := q
theorem x_cons {ta : TE} {tr : TA} (h : ta σ H fun x H1 => tr σ H1 fun xs H2 => QA (x :: xs) H2) : tCons ta tr σ H QA := h
theorem x_call {sp : Sp} {dvs : List V} {E : XK} {t : TA} (h : t σ H fun vs H1 => sp (vs ++ dvs) H1 Q E) : tCall sp dvs E t σ H Q := h
theorem x_CB {r : List V → Hp → VK → Prop} {t : TA} (h : t σ H fun vs H1 => r vs H1 Q) : tCB r t σ H Q := h
theorem x_BM {T : String} {r : V → List V → Hp → VK → Prop} {to : TE} {t : TA} (h : to σ H fun x H1 => tyV K T x H1 ∧ t σ H1 fun xs H2 => r x xs H2 Q) : tBM K T r to t σ H Q := h
theorem x_tup {t : TA} (h : t σ H fun xs H1 => xs.length ≤ sizeLine ∧ ∀ p, H1 p = none → Q (.ref p) (upd H1 p (.tup xs))) : tTup t σ H Q := h
theorem x_lst {t : TA} (h : t σ H fun xs H1 => xs.length ≤ sizeLine ∧ ∀ p, H1 p = none → Q (.ref p) (upd H1 p (.lst xs))) : tLst t σ H Q := h
theorem x_chain {r r' : R2} {ta tb tc : TE} (h : ta σ H fun x H1 => tb σ H1 fun y H2 => r x y H2 fun z H3 => ∃ k, z = .bl k ∧
  (if k = true then tc σ H3 fun w' H4 => r' y w' H4 Q else Q (.bl false) H3)) : tChain r r' ta tb tc σ H Q := h
theorem x_isi {x : V} {T S : String} {b : Bool} (ty : TyX K H x (.type S)) (h : kitB S T = some b) (q : Q (.bl b) H) : rIsi K [x, .ty T] H Q := ⟨x, .ty T, .type S, .type T, b, rfl, .ty T, ty, kit_ty h, q⟩
theorem x_iN {x : V} (q : Q (.bl (decide (x = .non))) H) : rIsN x .non H Q := ⟨rfl, q⟩
theorem x_nN {x : V} (q : Q (.bl (!decide (x = .non))) H) : rNotN x .non H Q := ⟨rfl, q⟩
theorem x_int1 {i : Int} (q : Q (.int i) H) : rInt1 [.int i] H Q := .inl ⟨i, rfl, q⟩
theorem x_min2 {i j : Int} (q : Q (.int (if j < i then j else i)) H) : rMin2 [.int i, .int j] H Q := ⟨i, j, rfl, q⟩
theorem x_max2 {i j : Int} (q : Q (.int (if j > i then j else i)) H) : rMax2 [.int i, .int j] H Q := ⟨i, j, rfl, q⟩
theorem x_listL {p : Addr} {xs : List V} (hp : SqL K H p xs) (q : ∀ l, H l = none → Q (.ref l) (upd H l (.lst xs))) : rListOf K [.ref p] H Q := ⟨p, xs, rfl, .inl hp, q⟩
theorem x_tupL {p : Addr} {xs : List V} (hp : SqL K H p xs) (q : ∀ l, H l = none → Q (.ref l) (upd H l (.tup xs))) : rTupOf K [.ref p] H Q := ⟨p, xs, rfl, .inl ⟨hp, q⟩⟩
theorem x_ite {p : Prop} [Decidable p] {A B : Prop} (h1 : p → A) (h2 : ¬ p → B) : if decide p = true then A else B := by
  by_cases h : p
  · rw [if_pos (decide_eq_true h)]; exact h1 h
  · rw [if_neg (by rw [decide_eq_false h]; exact Bool.false_ne_true)]; exact h2 h
theorem x_iteN {p : Prop} [Decidable p] {A B : Prop} (h1 : ¬ p → A) (h2 : p → B) : if (!decide p) = true then A else B := by
  by_cases h : p
  · rw [if_neg (by rw [decide_eq_true h]; decide)]; exact h2 h
  · rw [if_pos (by rw [decide_eq_false h]; rfl)]; exact h1 h
theorem x_iteB {b : Bool} {A B : Prop} (h1 : b = true → A) (h2 : b = false → B) : if b = true then A else B := by
  cases b with
  | true => rw [if_pos rfl]; exact h1 rfl
  | false => rw [if_neg Bool.false_ne_true]; exact h2 rfl
theorem x_iteBN {b : Bool} {A B : Prop} (h1 : b = false → A) (h2 : b = true → B) : if (!b) = true then A else B := by
  cases b with
  | true => rw [if_neg (by decide)]; exact h2 rfl
  | false => rw [if_pos (by decide)]; exact h1 rfl
theorem x_subL {i : Int} {x : V} {xs : List V} {p : Addr} {k : Nat} {q : Hp → Prop} (hp : H p = some (.lst xs)) (hk : ixN xs.length i = some k) (h : q (upd H p (.lst (xs.set k x)))) : rSetL (.ref p) (.int i) x H q :=
  ⟨p, xs, i, k, rfl, rfl, hp, hk, h⟩
theorem x_gSub {to ti : TE} {t : TSet} {v : V} {q : L2.St → Hp → Prop} (h : to σ H fun o H1 => ti σ H1 fun i H2 => t o i v H2 fun H3 => q σ H3) : gSub to ti t v σ H q := h
theorem x_for {wi : TI} {g : TG} {tb : TS} (h : wi σ H fun J H1 => ∃ W : Nat → Nat → L2.St → Hp → Prop, (∃ m, W 0 m σ H1) ∧ ∀ i m σ H, W i m σ H →
  (J.stop i H ∧ D.nx σ H) ∨ (J.go i H ∧ ∃ N : L2.St → Hp → Prop, (∀ σ' H', N σ' H' → ∃ m', m' < m ∧ W (i + 1) m' σ' H') ∧ ∀ x H', J.yld i H x H' → g x σ H' fun σ2 H2 => tb { D with nx := N, ct := N, bk := D.nx } σ2 H2)) : tFor wi g tb D σ H := h
theorem x_ixL {xs : List V} {i : Int} {v : V} {p : Addr} (hp : SqL K H p xs) (hi : atI xs i = some v) (q : Q v H) : rIxL K (.ref p) (.int i) H Q := ⟨p, xs, i, v, rfl, rfl, hp, hi, q⟩
theorem x_ixT {xs : List V} {i : Int} {v : V} {p : Addr} (hp : SqT K H p xs) (hi : atI xs i = some v) (q : Q v H) : rIxT K (.ref p) (.int i) H Q := ⟨p, xs, i, v, rfl, rfl, hp, hi, q⟩
/-- over a range from nought, of at most so many turns; the target a name -/
theorem x_forR1 {ta : TE} {j : Nat} {tb : TS} (n : Int) (P : Nat → L2.St → Hp → Prop) (hn : ∀ R : V → Hp → Prop, R (.int n) H → ta σ H R) (h1 : -(2 ^ 62) ≤ n) (h2 : n < 2 ^ 62) (h0 : P 0 σ H)
    (hs : ∀ (i : Nat) σ' H', (i : Int) < n → P i σ' H' → tb ⟨P (i + 1), D.rt, D.nx, P (i + 1)⟩ (σ'.set j (some (.int (i : Int)))) H') (hd : ∀ σ' H', P n.toNat σ' H' → D.nx σ' H') : tFor (iRng1 (tCons ta tNil)) (gName j) tb D σ H := by
  refine hn _ ⟨n, rfl, h1, h2, ?_⟩
  refine for_range (lo := 0) P h0 (fun i σ' H' hi p => ?_) hd
  have e : (0 : Int) + (i : Int) = (i : Int) := Int.zero_add _
  rw [e]
  exact hs i σ' H' (by omega) p
theorem x_forR2 {ta tc : TE} {j : Nat} {tb : TS} (lo n : Int) (P : Nat → L2.St → Hp → Prop) (hn : ∀ R : V → Hp → Prop, R (.int lo) H → ta σ H R) (hn2 : ∀ R : V → Hp → Prop, R (.int n) H → tc σ H R) (h1 : -(2 ^ 62) ≤ lo) (h2 : lo < 2 ^ 62) (h3 : -(2 ^ 62) ≤ n) (h4 : n < 2 ^ 62) (h0 : P 0 σ H)
    (hs : ∀ (i : Nat) σ' H', lo + (i : Int) < n → P i σ' H' → tb ⟨P (i + 1), D.rt, D.nx, P (i + 1)⟩ (σ'.set j (some (.int (lo + (i : Int))))) H') (hd : ∀ σ' H', P (n - lo).toNat σ' H' → D.nx σ' H') : tFor (iRng2 (tCons ta (tCons tc tNil))) (gName j) tb D σ H := by
  refine hn _ (hn2 _ ⟨lo, n, rfl, ⟨h1, h2, h3, h4⟩, ?_⟩)
  refine for_range (lo := lo) P h0 (fun i σ' H' hi p => ?_) hd
  exact hs i σ' H' (by omega) p
theorem rgC_up {i j c : Int} (hc : 0 < c) (hc2 : c < 1000000) (ha : 0 ≤ i) (ha' : i < 2 ^ 60) (hb : 0 ≤ j) (hb' : j < 2 ^ 60) : RgC i j c ((if i < j then (j - i - 1) / c + 1 else 0 : Int)).toNat := by
  have hd : 0 ≤ (j - i - 1) / c ∨ ¬ i < j := by
    by_cases h : i < j
    · exact .inl (Int.ediv_nonneg (by omega) (by omega))
    · exact .inr h
  have hd2 : i < j → (j - i - 1) / c * c ≤ j - i - 1 := fun _ => Int.ediv_mul_le _ (by omega)
  have hd3 : i < j → (j - i - 1) / c ≤ j - i - 1 := fun h => by
    have h0 : 0 ≤ (j - i - 1) / c := Int.ediv_nonneg (by omega) (by omega)
    have := hd2 h
    have h1 : (j - i - 1) / c * 1 ≤ (j - i - 1) / c * c := Int.mul_le_mul_of_nonneg_left (by omega) h0
    omega
  refine ⟨by omega, by omega, ?_, ?_⟩
  · unfold Builtin.Range.small Builtin.Range.rangeSize
    simp only [Builtin.Range.rangeFitsLong, Bool.and_eq_true, Bool.or_eq_true, decide_eq_true_eq, beq_iff_eq, show (c > 0) from hc, if_true]
    split
    · rename_i h
      have := hd3 h
      have h0 : 0 ≤ (j - i - 1) / c := Int.ediv_nonneg (by omega) (by omega)
      have := hd2 h
      generalize (j - i - 1) / c = q at *
      have e : (q + 1) * c = q * c + c := by rw [Int.add_mul, Int.one_mul]
      have e2 : (q + 1 - 1) * c = q * c := by rw [Int.add_sub_cancel]
      refine ⟨?_, ?_⟩ <;> (try rw [e]) <;> (try rw [e2]) <;> omega
    · omega
  · unfold Builtin.Range.rangeSize
    rw [if_pos hc]
    split
    · rcases hd with h | h
      · omega
      · omega
    · rfl
theorem x_forR3 {ta tc te : TE} {j : Nat} {tb : TS} (lo n c : Int) (P : Nat → L2.St → Hp → Prop) (hn : ∀ R : V → Hp → Prop, R (.int lo) H → ta σ H R) (hn2 : ∀ R : V → Hp → Prop, R (.int n) H → tc σ H R) (hn3 : ∀ R : V → Hp → Prop, R (.int c) H → te σ H R) (hc : 0 < c) (hc2 : c < 1000000) (h1 : 0 ≤ lo) (h2 : lo < 2 ^ 60) (h3 : 0 ≤ n) (h4 : n < 2 ^ 60) (h0 : P 0 σ H)
    (hs : ∀ (i : Nat) σ' H', lo + (i : Int) * c < n → P i σ' H' → tb ⟨P (i + 1), D.rt, D.nx, P (i + 1)⟩ (σ'.set j (some (.int (lo + (i : Int) * c)))) H') (hd : ∀ (i : Nat) σ' H', n ≤ lo + (i : Int) * c → P i σ' H' → D.nx σ' H') : tFor (iRng3 (tCons ta (tCons tc (tCons te tNil)))) (gName j) tb D σ H := by
  refine hn _ (hn2 _ (hn3 _ ⟨lo, n, c, _, rfl, rgC_up hc hc2 h1 h2 h3 h4, ?_⟩))
  refine for_rangeC (lo := lo) P h0 (fun i σ' H' hi p => hs i σ' H' ?_ p) (fun σ' H' p => hd _ σ' H' ?_ p)
  · split at hi
    · have hq : (i : Int) ≤ (n - lo - 1) / c := by omega
      have h5 : (n - lo - 1) / c * c ≤ n - lo - 1 := Int.ediv_mul_le _ (by omega)
      have h6 : (i : Int) * c ≤ (n - lo - 1) / c * c := Int.mul_le_mul_of_nonneg_right hq (by omega)
      omega
    · omega
  · split
    · have h5 : n - lo - 1 < ((n - lo - 1) / c + 1) * c := Int.lt_ediv_add_one_mul_self _ hc
      have h0 : 0 ≤ (n - lo - 1) / c := Int.ediv_nonneg (by omega) (by omega)
      rw [show ((((n - lo - 1) / c + 1).toNat : Nat) : Int) = (n - lo - 1) / c + 1 by omega]
      omega
    · have : (((0 : Int).toNat : Nat) : Int) * c = 0 := by simp
      omega
theorem isq_spec {i : Int} (h0 : 0 ≤ i) : ∃ r : Int, ((Float64.isqrt i.toNat : Nat) : Int) = r ∧ 0 ≤ r ∧ r * r ≤ i ∧ i < (r + 1) * (r + 1) := by
  refine ⟨_, rfl, Int.natCast_nonneg _, ?_, ?_⟩
  · have := (PySem.Float64.isqrt_spec i.toNat).1
    have e : ((Float64.isqrt i.toNat * Float64.isqrt i.toNat : Nat) : Int) ≤ (i.toNat : Int) := Int.ofNat_le.mpr this
    rw [Int.natCast_mul] at e
    omega
  · have := (PySem.Float64.isqrt_spec i.toNat).2
    have e : (i.toNat : Int) < (((Float64.isqrt i.toNat + 1) * (Float64.isqrt i.toNat + 1) : Nat) : Int) := Int.ofNat_lt.mpr this
    rw [Int.natCast_mul, Int.natCast_add] at e
    have e2 : ((1 : Nat) : Int) = 1 := rfl
    rw [e2] at e
    omega
theorem x_isqrt0 {i r : Int} (h0 : 0 ≤ i) (h1 : i < 2 ^ 64) (e : ((Float64.isqrt i.toNat : Nat) : Int) = r) (q : Q (.int r) H) : cr_isqrt_r [.int i] H Q := ⟨i, rfl, h0, h1, by rw [e]; exact q⟩
theorem x_forL {ta : TE} {g : TG} {tb : TS} {p : Addr} (xs : List V) (P : Nat → L2.St → Hp → Prop) (hn : ∀ R : V → Hp → Prop, R (.ref p) H → ta σ H R) (hp : SqL K H p xs) (h0 : P 0 σ H) (hl : ∀ i σ' H', i ≤ xs.length → P i σ' H' → SqL K H' p xs)
    (hs : ∀ i x σ' H', xs[i]? = some x → P i σ' H' → g x σ' H' fun σ2 H2 => tb ⟨P (i + 1), D.rt, D.nx, P (i + 1)⟩ σ2 H2) (hd : ∀ σ' H', P xs.length σ' H' → D.nx σ' H') : tFor (iList K ta) g tb D σ H :=
  hn _ ⟨p, rfl, ⟨xs, hp⟩, for_list (xs := xs) P h0 hl hs hd⟩
theorem x_app {p : Addr} {xs : List V} {y : V} (hp : H p = some (.lst xs)) (hl : xs.length < 1000000) (q : Q .non (upd H p (.lst (xs ++ [y])))) : rAppend (.ref p) [y] H Q :=
  ⟨p, xs, y, rfl, rfl, hp, Nat.lt_of_lt_of_le hl (by decide), q⟩
theorem x_tyL {p : Addr} {xs : List V} {R : Prop} (hp : H p = some (.lst xs)) (h : R) : tyV K "list" (.ref p) H ∧ R := ⟨.inl ⟨rfl, _, .inl (.inl hp)⟩, h⟩
theorem x_len {p : Addr} {xs : List V} (hp : SqL K H p xs) (q : Q (.int (xs.length : Int)) H) : rLen K [.ref p] H Q := ⟨p, xs, rfl, .inl hp, q⟩
theorem x_lenT {p : Addr} {xs : List V} (hp : SqT K H p xs) (q : Q (.int (xs.length : Int)) H) : rLen K [.ref p] H Q := ⟨p, xs, rfl, .inr hp, q⟩
theorem x_cat {p q : Addr} {xs ys : List V} (hp : H p = some (.lst xs)) (hq : H q = some (.lst ys)) (hl : xs.length + ys.length ≤ 1000000) (k : ∀ r, H r = none → Q (.ref r) (upd H r (.lst (xs ++ ys)))) : rCat (.ref p) (.ref q) H Q :=
  ⟨p, q, xs, ys, rfl, rfl, hp, hq, Nat.le_trans hl (by decide), k⟩
/-- while: a word by a measure -/
theorem x_while {c : TT} {tb : TS} (W : Nat → L2.St → Hp → Prop) (m0 : Nat) (h0 : W m0 σ H)
    (hs : ∀ m σ' H', W m σ' H' → ∃ b : Bool, (∀ R : Bool → Hp → Prop, R b H' → c σ' H' R) ∧ (b = true → tb ⟨fun σ2 H2 => ∃ m', m' < m ∧ W m' σ2 H2, D.rt, D.nx, fun σ2 H2 => ∃ m', m' < m ∧ W m' σ2 H2⟩ σ' H') ∧ (b = false → D.nx σ' H')) : tWhile c tb D σ H :=
  ⟨W, ⟨m0, h0⟩, fun m σ' H' w => by
    obtain ⟨b, h, h1, h2⟩ := hs m σ' H' w
    refine h _ ?_
    cases b with
    | true => exact iteT ⟨_, fun _ _ z => z, h1 rfl⟩
    | false => exact iteF (h2 rfl)⟩
theorem x_lcR1 {ta : TE} {j : Nat} {te : TE} {vs : List Nat} (n : Int) (P : Addr → Nat → Hp → Prop) (hn : ∀ R : V → Hp → Prop, R (.int n) H → ta σ H R) (h1 : -(2 ^ 62) ≤ n) (h2 : n < 2 ^ 62) (h0 : ∀ p, H p = none → P p 0 (upd H p (.lst [])))
    (hw : ∀ x, wipe ((wipe σ vs).set j (some x)) vs = wipe σ vs)
    (hs : ∀ p (i : Nat) H', H p = none → (i : Int) < n → P p i H' → te ((wipe σ vs).set j (some (.int (i : Int)))) H' fun y H4 => ∃ acc, H4 p = some (.lst acc) ∧ acc.length < sizeLine ∧ P p (i + 1) (upd H4 p (.lst (acc ++ [y]))))
    (hd : ∀ p H', H p = none → P p n.toNat H' → Q (.ref p) H') : tLc (iRng1 (tCons ta tNil)) (gName j) tYes te vs σ H Q := by
  refine hn _ ⟨n, rfl, h1, h2, fun p hp => ?_⟩
  refine lc_range (lo := 0) (Qd := fun H' => Q (.ref p) H') (P p) (h0 p hp) (fun i H' hi q => ?_) fun H' q => hd p H' hp q
  have e : (0 : Int) + (i : Int) = (i : Int) := Int.zero_add _
  rw [e]
  refine ⟨hw _, ?_⟩
  unfold tYes
  exact iteT (hs p i H' hp (by omega) q)
theorem x_lcL {ta : TE} {j : Nat} {te : TE} {vs : List Nat} {a : Addr} (xs : List V) (P : Addr → Nat → Hp → Prop) (hn : ∀ R : V → Hp → Prop, R (.ref a) H → ta σ H R) (ha : SqL K H a xs) (h0 : ∀ p, H p = none → P p 0 (upd H p (.lst [])))
    (hl : ∀ p i H', H p = none → i ≤ xs.length → P p i H' → SqL K H' a xs) (hw : ∀ x, wipe ((wipe σ vs).set j (some x)) vs = wipe σ vs)
    (hs : ∀ p (i : Nat) x H', H p = none → xs[i]? = some x → P p i H' → te ((wipe σ vs).set j (some x)) H' fun y H4 => ∃ acc, H4 p = some (.lst acc) ∧ acc.length < sizeLine ∧ P p (i + 1) (upd H4 p (.lst (acc ++ [y]))))
    (hd : ∀ p H', H p = none → P p xs.length H' → Q (.ref p) H') : tLc (iList K ta) (gName j) tYes te vs σ H Q := by
  refine hn _ ⟨a, rfl, ⟨xs, ha⟩, fun p hp => ?_⟩
  refine lc_list (xs := xs) (Qd := fun H' => Q (.ref p) H') (P p) (h0 p hp) (fun i H' hi q => hl p i H' hp hi q) (fun i x H' hi q => ?_) fun H' q => hd p H' hp q
  refine ⟨hw _, ?_⟩
  unfold tYes
  exact iteT (hs p i x H' hp hi q)
end
theorem x_gTup2 {K : PySem.W.Frag} {σ : L2.St} {H : Hp} {p : Addr} {x y : V} {i j : Nat} {R : L2.St → Hp → Prop} (hp : SqT K H p [x, y]) (h : R ((σ.set i (some x)).set j (some y)) H) : gTup K 2 (gCons (gName i) (gCons (gName j) gNil)) (.ref p) σ H R :=
  ⟨p, [x, y], rfl, hp, rfl, x, [y], rfl, y, [], rfl, rfl, h⟩
theorem sq_of {K : PySem.W.Frag} {H : Hp} {a : Addr} {xs : List V} (h : H a = some (.lst xs)) : SqL K H a xs := .inl (.inl h)
theorem st_of {K : PySem.W.Frag} {H : Hp} {a : Addr} {xs : List V} (h : H a = some (.tup xs)) : SqT K H a xs := .inl (.inl h)
theorem mul_r {i j : Int} (h1 : -(2 ^ 64) < j) (h2 : j < 2 ^ 64) : CMul i j := .inr ⟨h1, h2⟩
theorem mul_l {i j : Int} (h1 : -(2 ^ 64) < i) (h2 : i < 2 ^ 64) : CMul i j := .inl ⟨h1, h2⟩
theorem cr_isqrt {X : Cx} : CallR X (.builtin "math.isqrt") cr_isqrt_r := by
  intro pins s σ H vs us Q I r h
  obtain ⟨i, rfl, h0, h1, q⟩ := h
  cases r with
  | cons r1 rr =>
    cases rr
    obtain ⟨t, rfl⟩ := r1
    exact PySem.W.mg_isqrt h0 h1 ⟨.int _, H, I.tok _, ⟨_, rfl⟩, q⟩
/-- all but what stands at d is as it was -/
def Keep (d : Addr) (H H' : Hp) : Prop := ∀ b o, H b = some o → b ≠ d → H' b = some o
theorem Keep.refl (d : Addr) (H : Hp) : Keep d H H := fun _ _ h _ => h
theorem Keep.trans {d : Addr} {H H1 H2 : Hp} (a : Keep d H H1) (b : Keep d H1 H2) : Keep d H H2 := fun c o h n => b c o (a c o h n) n
theorem seqT {K : PySem.W.Frag} {H H' : Hp} {a : Addr} {xs : List V} (e : Same H H') (h : SqT K H a xs) : SqT K H' a xs := by
  rcases h with (h | ⟨o, h⟩) | h
  · exact .inl (.inl (e _ _ h))
  · exact .inl (.inr ⟨o, e _ _ h⟩)
  · exact .inr h
theorem sfree {H H' : Hp} (e : Same H H') {p : Addr} (h : H' p = none) : H p = none := e.free h
theorem sput {H H' : Hp} {p : Addr} {o : HO} (s : Same H H') (h : H p = none) : Same H (upd H' p o) := fun b x e => by
  rw [upd_ne (ne_of_none e h)]
  exact s b x e
theorem Same.tr {H H1 H2 : Hp} (a : Same H H1) (b : Same H1 H2) : Same H H2 := fun c o h => b c o (a c o h)
theorem Same.keep {d : Addr} {H H' : Hp} (a : Same H H') : Keep d H H' := fun c o h _ => a c o h
theorem same_upd {H : Hp} {p : Addr} {o : HO} (h : H p = none) : Same H (upd H p o) := fun b x e => by
  rw [upd_ne (ne_of_none e h)]
  exact e
theorem keep_upd {H : Hp} {p : Addr} {o : HO} : Keep p H (upd H p o) := fun b x e n => by
  rw [upd_ne n]
  exact e
/-- what is new may change -/
theorem Same.put {H H' : Hp} {p : Addr} {o : HO} (s : Same H H') (h : H p = none) : Same H (upd H' p o) := fun b x e => by
  rw [upd_ne (ne_of_none e h)]
  exact s b x e
theorem Keep.put {d : Addr} {H H' : Hp} {p : Addr} {o : HO} (s : Keep d H H') (h : H p = none) : Keep d H (upd H' p o) := fun b x e n => by
  rw [upd_ne (ne_of_none e h)]
  exact s b x e n
theorem Keep.seq {K : PySem.W.Frag} {d : Addr} {H H' : Hp} {a : Addr} {xs : List V} (e : Keep d H H') (n : a ≠ d) (h : SqL K H a xs) : SqL K H' a xs := by
  rcases h with (h | ⟨o, h⟩) | h
  · exact .inl (.inl (e _ _ h n))
  · exact .inl (.inr ⟨o, e _ _ h n⟩)
  · exact .inr h
/-- ints within bounds -/
def Rg (lo hi : Int) (ns : List Int) : Prop := ∀ z, z ∈ ns → lo ≤ z ∧ z < hi
theorem Rg.nil {lo hi : Int} : Rg lo hi [] := fun _ h => absurd h (by simp)
theorem Rg.app {lo hi : Int} {xs ys : List Int} (a : Rg lo hi xs) (b : Rg lo hi ys) : Rg lo hi (xs ++ ys) := fun z h => (List.mem_append.mp h).elim (a z) (b z)
theorem Rg.one {lo hi x : Int} (h1 : lo ≤ x) (h2 : x < hi) : Rg lo hi [x] := fun z h => by
  have e : z = x := by simpa using h
  subst e
  exact ⟨h1, h2⟩
theorem Rg.snoc {lo hi x : Int} {xs : List Int} (a : Rg lo hi xs) (h1 : lo ≤ x) (h2 : x < hi) : Rg lo hi (xs ++ [x]) := a.app (.one h1 h2)
theorem Rg.get {lo hi x : Int} {xs : List Int} {i : Nat} (a : Rg lo hi xs) (h : xs[i]? = some x) : lo ≤ x ∧ x < hi := a x (List.mem_of_getElem? h)
theorem map_get {ns : List Int} {i : Nat} {y : V} (h : (ns.map V.int)[i]? = some y) : ∃ z, ns[i]? = some z ∧ y = .int z := by
  rw [List.getElem?_map] at h
  cases e : ns[i]? with
  | none => rw [e] at h; cases h
  | some z => rw [e] at h; exact ⟨z, rfl, (Option.some.inj h).symm⟩
theorem gcd_step {a b : Int} : Int.gcd b (a % b) = Int.gcd a b := by
  rw [Int.emod_def, Int.gcd_sub_mul_left_right, Int.gcd_comm]
theorem half_step {a b : Int} (hb : 0 < b) (h : b < a) : b * (a % b) * 2 ≤ a * b := by
  have h1 := Int.emod_lt_of_pos a hb
  have h0 := Int.emod_nonneg a (show b ≠ 0 by omega)
  have h2 : b * (a / b) + a % b = a := Int.mul_ediv_add_emod a b
  have h3 : 1 ≤ a / b := (Int.le_ediv_iff_mul_le hb).mpr (by omega)
  have h4 : b * 1 ≤ b * (a / b) := Int.mul_le_mul_of_nonneg_left h3 (by omega)
  have h5 : a % b * 2 ≤ a := by omega
  have h6 : a % b * 2 * b ≤ a * b := Int.mul_le_mul_of_nonneg_right h5 (by omega)
  have e : b * (a % b) * 2 = a % b * 2 * b := by
    rw [Int.mul_comm b, Int.mul_assoc, Int.mul_assoc, Int.mul_comm b 2]
  omega
/-- an item of a written list -/
theorem at_lt {xs : List V} {i : Int} (h0 : 0 ≤ i) (h1 : i < (xs.length : Int)) : ∃ v, atI xs i = some v ∧ v ∈ xs := by
  obtain ⟨j, rfl⟩ : ∃ j : Nat, i = (j : Int) := ⟨i.toNat, by omega⟩
  have hj : j < xs.length := by omega
  exact ⟨xs[j], atI_nat (List.getElem?_eq_getElem hj), List.getElem_mem hj⟩
theorem map_getR {as : List Addr} {i : Nat} {v : V} (h : (as.map V.ref)[i]? = some v) : ∃ b, as[i]? = some b ∧ v = .ref b := by
  rw [List.getElem?_map] at h
  cases e : as[i]? with
  | none => rw [e] at h; cases h
  | some b => rw [e] at h; exact ⟨b, rfl, (Option.some.inj h).symm⟩
theorem kput {d : Addr} {H H' : Hp} {p : Addr} {o : HO} (s : Keep d H H') (h : H p = none) : Keep d H (upd H' p o) := s.put h
theorem snoc_at {α : Type} {xs : List α} {y z : α} {i j : Nat} (hl : xs.length = i) (h : (xs ++ [y])[j]? = some z) : (j < i ∧ xs[j]? = some z) ∨ (j = i ∧ z = y) := by
  by_cases hj : j < xs.length
  · rw [List.getElem?_append_left hj] at h
    exact .inl ⟨by omega, h⟩
  · have hlt := (List.getElem?_eq_some_iff.mp h).1
    rw [List.length_append] at hlt
    have e : j = xs.length := by simp at hlt; omega
    subst e
    rw [List.getElem?_append_right (Nat.le_refl _), Nat.sub_self] at h
    exact .inr ⟨hl, (Option.some.inj h).symm⟩
theorem lt_line {n : Nat} (h : n < 1000000) : n < sizeLine := Nat.lt_of_lt_of_le h (by decide)
/-- what is fresh may change -/
theorem same_keep {H H1 H2 : Hp} {l : Addr} (hl : H l = none) (s : Same H H1) (k : Keep l H1 H2) : Same H H2 := fun b o e => k b o (s b o e) (ne_of_none e hl)
theorem ixN_nat {n i : Nat} (h : i < n) : ixN n (i : Int) = some i := by
  unfold ixN
  grind
theorem cast_lt {x : Int} {c : Nat} (h0 : 0 ≤ x) (h1 : x < c) : ∃ t : Nat, x = (t : Int) ∧ t < c := ⟨x.toNat, by omega, by omega⟩
section
variable {σ : L2.St} {H : Hp} {Q : VK} {R : Option Int → Hp → Prop}
theorem x_sl2 {r : V → Option Int → Option Int → Hp → VK → Prop} {te : TE} {tl th : TO} (h : te σ H fun x H1 => tl σ H1 fun l H2 => th σ H2 fun u H3 => r x l u H3 Q) : tSl r te tl th σ H Q := h
theorem x_part0 (h : R none H) : tNoPart σ H R := h
theorem x_part1 {te : TE} (h : te σ H fun x H1 => ∃ i, x = .int i ∧ R (some i) H1) : tPart te σ H R := h
theorem x_cutL {K : PySem.W.Frag} {p : Addr} {xs : List V} {lo hi : Option Int} (hp : SqL K H p xs) (q : ∀ r, H r = none → Q (.ref r) (upd H r (.lst (cutV xs lo hi)))) : rSlL K (.ref p) lo hi H Q := ⟨p, xs, rfl, hp, q⟩
end
end Br

/-! ### Fermat's little theorem, by the products of the rests -/
namespace Br.F
def noDiv (p : Nat) (n : Nat) : Bool := Nat.rec true (fun k ih => (p % (k + 2) != 0) && ih) n
theorem noDiv_at {p : Nat} : ∀ {n : Nat}, noDiv p n = true → ∀ d, 2 ≤ d → d < n + 2 → ¬ d ∣ p
  | 0, _, d, h1, h2, _ => by omega
  | n + 1, h, d, h1, h2, hd => by
    have h' : ((p % (n + 2) != 0) && noDiv p n) = true := h
    rw [Bool.and_eq_true] at h'
    by_cases e : d < n + 2
    · exact noDiv_at h'.2 d h1 e hd
    · have e2 : d = n + 2 := by omega
      subst e2
      have := Nat.mod_eq_zero_of_dvd hd
      simp [this] at h'
def IsPrime (p : Nat) : Prop := 2 ≤ p ∧ ∀ d, d ∣ p → d = 1 ∨ d = p
theorem prime_of {p k : Nat} (h2 : 2 ≤ p) (hk : p < (k + 2) * (k + 2)) (h : noDiv p k = true) : IsPrime p := by
  refine ⟨h2, fun d hd => ?_⟩
  by_cases h1 : d = 1
  · exact .inl h1
  by_cases hp : d = p
  · exact .inr hp
  exfalso
  obtain ⟨e, he⟩ := hd
  have d0 : d ≠ 0 := fun z => by subst z; simp at he; omega
  have e0 : e ≠ 0 := fun z => by subst z; simp at he; omega
  have e1 : e ≠ 1 := fun z => by subst z; simp at he; exact hp he.symm
  by_cases hlt : d < k + 2
  · exact noDiv_at h d (by omega) hlt ⟨e, he⟩
  · by_cases hlt2 : e < k + 2
    · exact noDiv_at h e (by omega) hlt2 ⟨d, by rw [he, Nat.mul_comm]⟩
    · have : (k + 2) * (k + 2) ≤ d * e := Nat.mul_le_mul (by omega) (by omega)
      omega
theorem IsPrime.coprime {p a : Nat} (hp : IsPrime p) (h : ¬ p ∣ a) : Nat.Coprime p a := by
  rcases hp.2 _ (Nat.gcd_dvd_left p a) with e | e
  · exact e
  · exact absurd (e ▸ Nat.gcd_dvd_right p a) h
theorem IsPrime.mul {p a b : Nat} (hp : IsPrime p) (h : p ∣ a * b) : p ∣ a ∨ p ∣ b := by
  by_cases h1 : p ∣ a
  · exact .inl h1
  · exact .inr ((hp.coprime h1).dvd_of_dvd_mul_left h)
theorem dvd_sub_of {p x y : Nat} (h : x % p = y % p) : p ∣ y - x := Nat.dvd_of_mod_eq_zero (Nat.sub_mod_eq_zero_of_mod_eq h.symm)
theorem mod_of_dvd_sub {p x y : Nat} (hl : x ≤ y) (h : p ∣ y - x) : x % p = y % p := by
  obtain ⟨q, hq⟩ := h
  have e : y = x + p * q := by omega
  rw [e, Nat.add_mul_mod_self_left]
theorem perm_of : ∀ {M L : List Nat}, M.Nodup → (∀ x, x ∈ M → x ∈ L) → L.length = M.length → M.Perm L
  | [], L, _, _, hl => by
    have : L = [] := List.length_eq_zero_iff.mp hl
    rw [this]
  | a :: M, L, hn, hs, hl => by
    have ha : a ∈ L := hs a List.mem_cons_self
    have hn' := List.nodup_cons.mp hn
    have h2 : M.Perm (L.erase a) := perm_of hn'.2 (fun x hx => (List.mem_erase_of_ne (fun e => hn'.1 (by rw [← e]; exact hx))).mpr (hs x (List.mem_cons_of_mem _ hx))) (by
      rw [List.length_erase_of_mem ha]
      rw [List.length_cons] at hl
      omega)
    exact (List.Perm.cons a h2).trans (List.perm_cons_erase ha).symm
def prod : List Nat → Nat
  | [] => 1
  | a :: l => a * prod l
theorem prod_perm {a b : List Nat} (h : a.Perm b) : prod a = prod b := by
  induction h with
  | nil => rfl
  | cons x _ ih => show x * _ = x * _; rw [ih]
  | swap x y l => show y * (x * _) = x * (y * _); rw [← Nat.mul_assoc, ← Nat.mul_assoc, Nat.mul_comm y x]
  | trans _ _ h1 h2 => rw [h1, h2]
theorem prod_map {p a : Nat} : ∀ l : List Nat, prod (l.map fun x => a * x % p) % p = a ^ l.length * prod l % p
  | [] => by simp [prod]
  | x :: l => by
    show (a * x % p) * prod (l.map fun x => a * x % p) % p = a ^ (l.length + 1) * (x * prod l) % p
    rw [Nat.mul_mod, Nat.mod_mod, prod_map l, ← Nat.mul_mod, Nat.pow_succ]
    congr 1
    rw [Nat.mul_assoc (a ^ l.length) a, Nat.mul_left_comm a x, Nat.mul_comm a x, Nat.mul_assoc x a, ← Nat.mul_assoc (a ^ l.length) x, Nat.mul_comm (a ^ l.length) x, Nat.mul_assoc x (a ^ l.length), ← Nat.mul_assoc (a ^ l.length), Nat.mul_comm (a ^ l.length) a, Nat.mul_assoc a]
theorem prod_not {p : Nat} (hp : IsPrime p) : ∀ l : List Nat, (∀ x, x ∈ l → ¬ p ∣ x) → ¬ p ∣ prod l
  | [], _, h => by
    have : p = 1 := Nat.dvd_one.mp h
    have := hp.1
    omega
  | x :: l, h, hd => by
    rcases hp.mul (show p ∣ x * prod l from hd) with h1 | h1
    · exact h x List.mem_cons_self h1
    · exact prod_not hp l (fun y hy => h y (List.mem_cons_of_mem _ hy)) h1
theorem fermat {p a : Nat} (hp : IsPrime p) (ha : ¬ p ∣ a) : a ^ (p - 1) % p = 1 % p := by
  have hp2 := hp.1
  let L := List.range' 1 (p - 1)
  have hL : ∀ x, x ∈ L ↔ 1 ≤ x ∧ x < p := fun x => by
    show x ∈ List.range' 1 (p - 1) ↔ _
    rw [List.mem_range'_1]
    omega
  have hnL : L.Nodup := List.nodup_range'
  have hLn : ∀ x, x ∈ L → ¬ p ∣ x := fun x hx hd => by
    have := (hL x).mp hx
    have := Nat.le_of_dvd (by omega) hd
    omega
  have hM : (L.map fun x => a * x % p).Perm L := by
    refine perm_of ?_ ?_ (by rw [List.length_map])
    · refine List.pairwise_map.mpr (List.Pairwise.imp_of_mem ?_ hnL)
      intro x y hx hy hne he
      have bx := (hL x).mp hx
      have bY := (hL y).mp hy
      have key : ∀ u v, 1 ≤ u → u < p → v < p → u ≤ v → a * u % p = a * v % p → u = v := fun u v h1 h2 h3 h4 h5 => by
        have hd : p ∣ a * (v - u) := by
          rw [Nat.mul_sub]
          exact dvd_sub_of h5
        rcases hp.mul hd with h6 | h6
        · exact absurd h6 ha
        · by_cases h7 : v - u = 0
          · omega
          · have := Nat.le_of_dvd (by omega) h6
            omega
      rcases Nat.le_total x y with h | h
      · exact hne (key x y bx.1 bx.2 bY.2 h he)
      · exact hne (key y x bY.1 bY.2 bx.2 h he.symm).symm
    · intro z hz
      obtain ⟨x, hx, rfl⟩ := List.mem_map.mp hz
      refine (hL _).mpr ⟨?_, Nat.mod_lt _ (by omega)⟩
      by_cases h0 : a * x % p = 0
      · rcases hp.mul (Nat.dvd_of_mod_eq_zero h0) with h6 | h6
        · exact absurd h6 ha
        · exact absurd h6 (hLn x hx)
      · omega
  have e1 := prod_perm hM
  have e2 : a ^ L.length * prod L % p = prod L % p := by rw [← prod_map, e1]
  have hlen : L.length = p - 1 := List.length_range'
  rw [hlen] at e2
  have hpos : 1 ≤ a ^ (p - 1) := Nat.one_le_iff_ne_zero.mpr fun z => by
    have : a = 0 := Nat.pow_eq_zero.mp z |>.1
    subst this
    exact ha (Nat.dvd_zero p)
  have hd : p ∣ (a ^ (p - 1) - 1) * prod L := by
    rw [Nat.sub_mul, Nat.one_mul]
    exact dvd_sub_of e2.symm
  rcases hp.mul hd with h | h
  · exact (mod_of_dvd_sub hpos h).symm
  · exact absurd h (prod_not hp L hLn)
theorem p2 : IsPrime 2 := prime_of (k := 0) (by decide) (by decide) (by decide)
theorem p3 : IsPrime 3 := prime_of (k := 0) (by decide) (by decide) (by decide)
theorem p5 : IsPrime 5 := prime_of (k := 1) (by decide) (by decide) (by decide +kernel)
theorem p7 : IsPrime 7 := prime_of (k := 1) (by decide) (by decide) (by decide +kernel)
theorem p11 : IsPrime 11 := prime_of (k := 2) (by decide) (by decide) (by decide +kernel)
theorem p13 : IsPrime 13 := prime_of (k := 2) (by decide) (by decide) (by decide +kernel)
theorem p101 : IsPrime 101 := prime_of (k := 9) (by decide) (by decide) (by decide +kernel)
theorem pBig : IsPrime 999999937 := prime_of (k := 31622) (by decide) (by decide +kernel) (by decide +kernel)
end Br.F

/-! ### tables' polynomials: the shares of Lagrange's formula modulo a prime -/
namespace Br.F
def Tp (x : Int) : Nat → Int
  | 0 => 1
  | n + 1 => Tp x n * (x - (n : Int))
def Ab (x : Int) (at_ : Nat) : Nat → Int
  | 0 => 1
  | n + 1 => if n = at_ then Ab x at_ n else Ab x at_ n * (x - (n : Int))
def fct : Nat → Int
  | 0 => 1
  | n + 1 => fct n * ((n : Int) + 1)
def sg (m : Nat) : Int := if m % 2 = 0 then 1 else -1
theorem sg_succ (m : Nat) : sg (m + 1) = - sg m := by
  unfold sg
  split <;> split <;> first | omega | rfl
theorem Ab_eq {x : Int} {at_ n : Nat} (h : n ≠ at_) : Ab x at_ (n + 1) = Ab x at_ n * (x - (n : Int)) := if_neg h
theorem Ab_at {x : Int} {at_ : Nat} : Ab x at_ (at_ + 1) = Ab x at_ at_ := if_pos rfl
theorem Ab_lt {x : Int} {at_ : Nat} : ∀ {n : Nat}, n ≤ at_ → Ab x at_ n = Tp x n
  | 0, _ => rfl
  | n + 1, h => by
    rw [Ab_eq (by omega), Ab_lt (by omega)]
    rfl
theorem Tp_split {x : Int} {at_ : Nat} : ∀ {n : Nat}, at_ < n → Tp x n = (x - (at_ : Int)) * Ab x at_ n
  | 0, h => by omega
  | n + 1, h => by
    by_cases e : n = at_
    · subst e
      rw [Ab_at, Ab_lt (Nat.le_refl _), Int.mul_comm]
      rfl
    · rw [Ab_eq e]
      show Tp x n * (x - (n : Int)) = _
      rw [Tp_split (at_ := at_) (by omega), Int.mul_assoc]
theorem Ab_zero {x at_ : Nat} (hx : x ≠ at_) : ∀ {n : Nat}, x < n → Ab (x : Int) at_ n = 0
  | 0, h => by omega
  | n + 1, h => by
    by_cases e : n = at_
    · subst e
      rw [Ab_at, Ab_zero hx (by omega)]
    · rw [Ab_eq e]
      by_cases e2 : x = n
      · subst e2
        rw [Int.sub_self, Int.mul_zero]
      · rw [Ab_zero hx (by omega), Int.zero_mul]
theorem Tp_low {at_ : Nat} : ∀ {n : Nat}, n ≤ at_ → Tp (at_ : Int) n * fct (at_ - n) = fct at_
  | 0, _ => by rw [Nat.sub_zero]; exact Int.one_mul _
  | n + 1, h => by
    have ih := Tp_low (at_ := at_) (n := n) (by omega)
    obtain ⟨k, hk⟩ : ∃ k, at_ - n = k + 1 := ⟨at_ - n - 1, by omega⟩
    have e : at_ - (n + 1) = k := by omega
    rw [hk] at ih
    rw [e]
    show Tp (at_ : Int) n * ((at_ : Int) - (n : Int)) * fct k = _
    have e2 : (at_ : Int) - (n : Int) = (k : Int) + 1 := by omega
    rw [e2, Int.mul_assoc, Int.mul_comm ((k : Int) + 1)]
    exact ih
theorem Ab_hi {at_ : Nat} : ∀ m : Nat, Ab (at_ : Int) at_ (at_ + 1 + m) = fct at_ * (sg m * fct m)
  | 0 => by
    show Ab (at_ : Int) at_ (at_ + 1) = _
    rw [Ab_at, Ab_lt (Nat.le_refl _)]
    have h := Tp_low (at_ := at_) (Nat.le_refl at_)
    rw [Nat.sub_self] at h
    have e : fct 0 = 1 := rfl
    have e2 : sg 0 = 1 := rfl
    rw [e, Int.mul_one] at h
    rw [h, e, e2, Int.mul_one, Int.mul_one]
  | m + 1 => by
    show Ab (at_ : Int) at_ (at_ + 1 + m + 1) = _
    rw [Ab_eq (by omega), Ab_hi m, sg_succ]
    show _ = fct at_ * (-sg m * (fct m * ((m : Int) + 1)))
    have e : (at_ : Int) - ((at_ + 1 + m : Nat) : Int) = -((m : Int) + 1) := by omega
    rw [e]
    grind
theorem IsPrime.mulI {p : Nat} {a b : Int} (hp : IsPrime p) (h : (p : Int) ∣ a * b) : (p : Int) ∣ a ∨ (p : Int) ∣ b := by
  have h' : p ∣ a.natAbs * b.natAbs := by
    rw [← Int.natAbs_mul]
    exact Int.natAbs_dvd_natAbs.mpr h
  rcases hp.mul h' with h1 | h1
  · exact .inl (Int.ofNat_dvd_left.mpr h1)
  · exact .inr (Int.ofNat_dvd_left.mpr h1)
theorem small_dvd {p : Nat} {z : Int} (h : (p : Int) ∣ z) (h1 : -(p : Int) < z) (h2 : z < p) : z = 0 := by
  obtain ⟨q, hq⟩ := h
  have hp : 0 < (p : Int) := by omega
  by_cases h0 : q = 0
  · rw [hq, h0, Int.mul_zero]
  · exfalso
    rcases Int.lt_or_gt_of_ne h0 with hl | hl
    · have : (p : Int) * q ≤ p * (-1) := Int.mul_le_mul_of_nonneg_left (by omega) (by omega)
      omega
    · have : (p : Int) * 1 ≤ p * q := Int.mul_le_mul_of_nonneg_left (by omega) (by omega)
      omega
theorem one_not {p : Nat} (hp : IsPrime p) : ¬ (p : Int) ∣ 1 := fun h => by
  have := small_dvd h (by have := hp.1; omega) (by have := hp.1; omega)
  omega
theorem Ab_not {p at_ : Nat} {x : Int} (hp : IsPrime p) : ∀ {n : Nat}, (∀ o : Nat, o < n → o ≠ at_ → ¬ (p : Int) ∣ x - (o : Int)) → ¬ (p : Int) ∣ Ab x at_ n
  | 0, _ => one_not hp
  | n + 1, h => by
    have ih := Ab_not (n := n) hp fun o ho => h o (by omega)
    by_cases e : n = at_
    · subst e
      rw [Ab_at]
      exact ih
    · rw [Ab_eq e]
      intro hd
      rcases hp.mulI hd with h1 | h1
      · exact ih h1
      · exact h n (by omega) e h1
theorem Ab_own {p at_ n : Nat} (hp : IsPrime p) (ha : at_ < n) (hn : n ≤ p) : ¬ (p : Int) ∣ Ab (at_ : Int) at_ n :=
  Ab_not hp fun o ho hne hd => by
    have := small_dvd hd (by omega) (by omega)
    omega
/-- the share of the index at_ at x -/
def Bas (p n at_ : Nat) (x v : Int) : Prop := 0 ≤ v ∧ v < p ∧ (p : Int) ∣ v * Ab (at_ : Int) at_ n - Ab x at_ n
theorem Bas.uniq {p n at_ : Nat} {x u v : Int} (hp : IsPrime p) (ha : at_ < n) (hn : n ≤ p) (hu : Bas p n at_ x u) (hv : Bas p n at_ x v) : u = v := by
  have h : (p : Int) ∣ (u - v) * Ab (at_ : Int) at_ n := by
    have := Int.dvd_sub hu.2.2 hv.2.2
    have e : (u - v) * Ab (at_ : Int) at_ n = u * Ab (at_ : Int) at_ n - Ab x at_ n - (v * Ab (at_ : Int) at_ n - Ab x at_ n) := by grind
    rw [e]
    exact this
  rcases hp.mulI h with h1 | h1
  · have := small_dvd h1 (by have := hu.1; have := hv.2.1; omega) (by have := hv.1; have := hu.2.1; omega)
    omega
  · exact absurd h1 (Ab_own hp ha hn)
theorem Bas.ind {p n at_ x : Nat} (hp : IsPrime p) (hx : x < n) : Bas p n at_ (x : Int) (if at_ = x then 1 else 0) := by
  have hp2 := hp.1
  refine ⟨by split <;> omega, by split <;> omega, ?_⟩
  by_cases e : at_ = x
  · subst e
    rw [if_pos rfl, Int.one_mul, Int.sub_self]
    exact Int.dvd_zero _
  · rw [if_neg e, Int.zero_mul, Ab_zero (fun z => e z.symm) hx, Int.sub_self]
    exact Int.dvd_zero _
/-- by the inverse of the whole bottom -/
theorem Bas.inv {p n at_ : Nat} {x tp bot y : Int} (ha : at_ < n) (hp2 : 2 ≤ p) (ht : (p : Int) ∣ tp - Tp x n) (hb : (p : Int) ∣ bot - Ab (at_ : Int) at_ n) (hy : y * ((x - (at_ : Int)) * bot) % p = 1) : Bas p n at_ x (tp * y % p) := by
  refine ⟨Int.emod_nonneg _ (by omega), Int.emod_lt_of_pos _ (by omega), ?_⟩
  rw [Tp_split ha] at ht
  generalize Ab (at_ : Int) at_ n = A at *
  generalize Ab x at_ n = U at *
  generalize x - (at_ : Int) = D at *
  obtain ⟨t1, h1⟩ := ht
  obtain ⟨t2, h2⟩ := hb
  have h3 := Int.mul_ediv_add_emod (y * (D * bot)) p
  rw [hy] at h3
  have h4 := Int.mul_ediv_add_emod (tp * y) p
  generalize y * (D * bot) / (p : Int) = t3 at *
  generalize tp * y / (p : Int) = t4 at *
  generalize tp * y % (p : Int) = v at *
  refine ⟨t1 * y * A - t4 * A + U * (t3 - D * y * t2), ?_⟩
  have e1 : tp = D * U + p * t1 := by omega
  have e2 : bot = A + p * t2 := by omega
  have e3 : v = tp * y - p * t4 := by omega
  subst e1 e2 e3
  have e5 : y * (D * (A + p * t2)) = p * t3 + 1 := by omega
  have e6 : U * (y * (D * (A + p * t2))) = U * (p * t3 + 1) := by rw [e5]
  grind
theorem pow_dvd {p a b : Int} (h : p ∣ a - b) : ∀ k : Nat, p ∣ a ^ k - b ^ k
  | 0 => by rw [Int.pow_zero, Int.pow_zero, Int.sub_self]; exact Int.dvd_zero _
  | k + 1 => by
    obtain ⟨u, hu⟩ := pow_dvd h k
    obtain ⟨v, hv⟩ := h
    refine ⟨u * a + b ^ k * v, ?_⟩
    rw [Int.pow_succ, Int.pow_succ]
    have e1 : a ^ k = b ^ k + p * u := by omega
    have e2 : a = b + p * v := by omega
    rw [e1]
    generalize b ^ k = B
    subst e2
    grind
/-- by Fermat's power -/
theorem Bas.pow {p n at_ : Nat} {x ab be pw : Int} (hp : IsPrime p) (hat : at_ < n) (hn : n ≤ p) (hbe0 : 0 ≤ be) (ha : (p : Int) ∣ ab - Ab x at_ n) (hb : (p : Int) ∣ be - Ab (at_ : Int) at_ n) (hw : (p : Int) ∣ pw - be ^ (p - 2)) : Bas p n at_ x (ab * pw % p) := by
  have hp2 := hp.1
  refine ⟨Int.emod_nonneg _ (by omega), Int.emod_lt_of_pos _ (by omega), ?_⟩
  have hA := Ab_own hp hat hn
  generalize Ab (at_ : Int) at_ n = A at *
  generalize Ab x at_ n = U at *
  have hbn : ¬ (p : Int) ∣ be := fun h => hA (by
    have e : A = be - (be - A) := by omega
    rw [e]
    exact Int.dvd_sub h hb)
  obtain ⟨bn, rfl⟩ : ∃ bn : Nat, be = (bn : Int) := ⟨be.toNat, by omega⟩
  have hf : bn ^ (p - 1) % p = 1 % p := fermat hp fun h => hbn (Int.ofNat_dvd.mpr h)
  have hf2 : ((bn : Int) ^ (p - 1)) % (p : Int) = 1 := by
    have h1 : 1 % p = 1 := Nat.mod_eq_of_lt (by omega)
    rw [h1] at hf
    have e : (((bn ^ (p - 1) % p : Nat)) : Int) = 1 := by rw [hf]; rfl
    rw [Int.natCast_emod, Int.natCast_pow] at e
    exact e
  have h3 := Int.mul_ediv_add_emod ((bn : Int) ^ (p - 1)) p
  rw [hf2] at h3
  obtain ⟨k, hk⟩ : ∃ k, p = k + 2 := ⟨p - 2, by omega⟩
  have e1 : p - 1 = k + 1 := by omega
  have e2 : p - 2 = k := by omega
  rw [e1, Int.pow_succ] at h3
  rw [e2] at hw
  generalize (bn : Int) ^ k = W at *
  generalize (W * (bn : Int)) / (p : Int) = t3 at *
  obtain ⟨t1, h1⟩ := ha
  obtain ⟨t2, h2⟩ := hb
  obtain ⟨t5, h5⟩ := hw
  have h4 := Int.mul_ediv_add_emod (ab * pw) p
  generalize ab * pw / (p : Int) = t4 at *
  generalize ab * pw % (p : Int) = v at *
  have g1 : ab = U + p * t1 := by omega
  have g2 : A = (bn : Int) - p * t2 := by omega
  have g3 : v = ab * pw - p * t4 := by omega
  have g5 : pw = W + p * t5 := by omega
  have g6 : W * (bn : Int) = 1 + p * t3 := by omega
  subst g1 g5
  subst g3
  subst g2
  refine ⟨t1 * (W + p * t5) * ((bn : Int) - p * t2) - t4 * ((bn : Int) - p * t2) + U * t3 + U * t5 * ((bn : Int) - p * t2) - U * W * t2, ?_⟩
  have g7 : U * (W * (bn : Int)) = U * (1 + p * t3) := by rw [g6]
  grind
/-- sums -/
def S1 (f : Nat → Int) : Nat → Int
  | 0 => 0
  | n + 1 => S1 f n + f n
theorem S1_congr {f g : Nat → Int} : ∀ {n : Nat}, (∀ i, i < n → f i = g i) → S1 f n = S1 g n
  | 0, _ => rfl
  | n + 1, h => by
    show S1 f n + f n = S1 g n + g n
    rw [S1_congr fun i hi => h i (by omega), h n (by omega)]
theorem S1_mul {f : Nat → Int} {c : Int} : ∀ {n : Nat}, S1 (fun i => c * f i) n = c * S1 f n
  | 0 => (Int.mul_zero c).symm
  | n + 1 => by
    show S1 (fun i => c * f i) n + c * f n = c * (S1 f n + f n)
    rw [S1_mul, Int.mul_add]
theorem S1_one {n k : Nat} {f : Nat → Int} (h : ∀ i, i ≠ k → f i = 0) : k < n → S1 f n = f k := by
  induction n with
  | zero => intro hk; omega
  | succ n ih =>
    intro hk
    show S1 f n + f n = f k
    by_cases e : k = n
    · subst e
      have z : ∀ m, m ≤ k → S1 f m = 0 := fun m => by
        induction m with
        | zero => intro _; rfl
        | succ m ih => intro hm; show S1 f m + f m = 0; rw [ih (by omega), h m (by omega)]; rfl
      rw [z k (Nat.le_refl _), Int.zero_add]
    · rw [ih (by omega), h n (fun z => e z.symm), Int.add_zero]
/-- the value of the table's polynomial -/
def Itp (p : Nat) (t : List (List Int)) (x y v : Int) : Prop := ∃ R C : Nat → Int, (∀ i, i < t.length → Bas p t.length i x (R i)) ∧ (∀ j, j < t.length → Bas p t.length j y (C j)) ∧
  v = S1 (fun i => R i * S1 (fun j => C j * (t.getD i []).getD j 0) t.length) t.length % p
theorem Itp.uniq {p : Nat} {t : List (List Int)} {x y u v : Int} (hp : IsPrime p) (hn : t.length ≤ p) (hu : Itp p t x y u) (hv : Itp p t x y v) : u = v := by
  obtain ⟨R, C, h1, h2, h3⟩ := hu
  obtain ⟨R', C', h1', h2', h3'⟩ := hv
  rw [h3, h3']
  congr 1
  refine S1_congr fun i hi => ?_
  rw [(h1 i hi).uniq hp hi hn (h1' i hi)]
  congr 1
  exact S1_congr fun j hj => by rw [(h2 j hj).uniq hp hj hn (h2' j hj)]
theorem Itp.own {p : Nat} {t : List (List Int)} {x y : Nat} (hp : IsPrime p) (hx : x < t.length) (hy : y < t.length) (h0 : 0 ≤ (t.getD x []).getD y 0) (h1 : (t.getD x []).getD y 0 < p) : Itp p t x y ((t.getD x []).getD y 0) := by
  refine ⟨fun i => if i = x then 1 else 0, fun j => if j = y then 1 else 0, fun i _ => .ind hp hx, fun j _ => .ind hp hy, ?_⟩
  rw [S1_one (k := x) (fun i hi => by show (if i = x then (1 : Int) else 0) * _ = 0; rw [if_neg hi, Int.zero_mul]) hx]
  show _ = (if x = x then (1 : Int) else 0) * S1 _ _ % _
  rw [if_pos rfl, Int.one_mul, S1_one (k := y) (fun j hj => by show (if j = y then (1 : Int) else 0) * _ = 0; rw [if_neg hj, Int.zero_mul]) hy]
  show _ = (if y = y then (1 : Int) else 0) * _ % _
  rw [if_pos rfl, Int.one_mul, Int.emod_eq_of_lt h0 h1]
/-- the share, written out -/
def BsV (p n i : Nat) (x : Int) : Int := Ab x i n * (Ab (i : Int) i n % p) ^ (p - 2) % p
theorem BsV.ok {p n i : Nat} {x : Int} (hp : IsPrime p) (hi : i < n) (hn : n ≤ p) : Bas p n i x (BsV p n i x) := by
  have hp2 := hp.1
  refine Bas.pow (be := Ab (i : Int) i n % p) hp hi hn (Int.emod_nonneg _ (by omega)) ⟨0, by omega⟩ ?_ ⟨0, by omega⟩
  have := Int.mul_ediv_add_emod (Ab (i : Int) i n) p
  exact ⟨-(Ab (i : Int) i n / p), by rw [Int.mul_neg]; omega⟩
theorem Itp.mk' {p : Nat} {t : List (List Int)} {x y v : Int} (hp : IsPrime p) (hn : t.length ≤ p) (h0 : 0 ≤ v) (h1 : v < p) (hd : (p : Int) ∣ v - S1 (fun i => BsV p t.length i x * S1 (fun j => BsV p t.length j y * (t.getD i []).getD j 0) t.length) t.length) : Itp p t x y v := by
  refine ⟨fun i => BsV p t.length i x, fun j => BsV p t.length j y, fun i hi => BsV.ok hp hi hn, fun j hj => BsV.ok hp hj hn, ?_⟩
  generalize S1 _ _ = s at *
  have hp2 := hp.1
  have h4 := Int.mul_ediv_add_emod s p
  have h5 := Int.emod_nonneg s (show (p : Int) ≠ 0 by omega)
  have h6 := Int.emod_lt_of_pos s (show (0 : Int) < p by omega)
  have h7 : (p : Int) ∣ v - s % p := by
    have e : v - s % p = v - s + p * (s / p) := by omega
    rw [e]
    exact Int.dvd_add hd (Int.dvd_mul_right _ _)
  have := small_dvd h7 (by omega) (by omega)
  omega
end Br.F

/-! ### zip of a list and a tuple -/
namespace Br
open PySem PySem.Spec PyProof.Rows L2
def ItzM (K : PySem.W.Frag) (a b : Addr) : It where
  go := fun i H => ∃ (xs ys : List V), SqL K H a xs ∧ SqT K H b ys ∧ i < xs.length ∧ i < ys.length
  yld := fun i H v H' => ∃ (p : Addr) (x y : V), v = .ref p ∧ H p = none ∧ H' = upd H p (.tup [x, y]) ∧ (∀ xs, SqL K H a xs → xs[i]? = some x) ∧ (∀ ys, SqT K H b ys → ys[i]? = some y)
  stop := fun i H => ∃ (xs ys : List V), SqL K H a xs ∧ SqT K H b ys ∧ i ≤ xs.length ∧ i ≤ ys.length ∧ (i = xs.length ∨ i = ys.length)
def MixSt (a b z p q i1 i2 : Addr) (i : Nat) (h : Heap) : Prop :=
  IsZip h z p q .none ∧ IsTupOf2 h p (.ref i1) (.ref i2) ∧ (∃ u v, IsTupOf2 h q u v) ∧ h.IsListIter i1 a i ∧ h.IsTupleIter i2 b i
theorem MixSt.sizes {a b z p q i1 i2 : Addr} {i : Nat} {h : Heap} (m : MixSt a b z p q i1 i2 i h) : z < h.objs.size ∧ p < h.objs.size ∧ q < h.objs.size ∧ i1 < h.objs.size ∧ i2 < h.objs.size := by
  obtain ⟨e1, e2, ⟨_, _, e3⟩, ⟨_, e4, _⟩, ⟨_, e5, _⟩⟩ := m
  exact ⟨Heap.lt_size e1, Heap.lt_size e2, Heap.lt_size e3, Heap.lt_size e4, Heap.lt_size e5⟩
theorem in5 {c z p q i1 i2 : Addr} (h : c ∈ [z, p, q, i1, i2]) : c = z ∨ c = p ∨ c = q ∨ c = i1 ∨ c = i2 := by simpa using h
theorem turn_mix {P : Program} {w : World} {K : PySem.W.Frag} {elts : List Expr} {kk : Nat} {tpos : Pos} {a b z p q i1 i2 : Addr} (S : ZipSep2 z p q i1 i2 [i1, a] [i2, b]) :
    Turn P w K (.Tuple elts kk tpos) (ItzM K a b) [z, p, q, i1, i2] z (MixSt a b z p q i1 i2) := by
  have ha : a ≠ i1 ∧ b ≠ i2 ∨ True := .inr trivial
  refine ⟨by simp, ?obj, ?keep, ?item, ?done, ?self⟩
  case obj =>
    intro i h st c hc
    obtain ⟨e1, e2, ⟨_, _, e3⟩, ⟨o4, e4, _, d4⟩, ⟨o5, e5, _, d5⟩⟩ := st
    rcases in5 hc with rfl | rfl | rfl | rfl | rfl
    · exact ⟨_, e1, fun _ z => nomatch z⟩
    · exact ⟨_, e2, fun _ z => nomatch z⟩
    · exact ⟨_, e3, fun _ z => nomatch z⟩
    · exact ⟨_, e4, fun _ z => by rw [d4] at z; cases z⟩
    · exact ⟨_, e5, fun _ z => by rw [d5] at z; cases z⟩
  case keep =>
    intro i h h' st k
    obtain ⟨e1, e2, ⟨u, v, e3⟩, e4, e5⟩ := st
    exact ⟨k _ (by simp) _ e1, k _ (by simp) _ e2, ⟨u, v, k _ (by simp) _ e3⟩, e4.at fun o => k _ (by simp) o, e5.at fun o => k _ (by simp) o⟩
  case item =>
    intro X hP hw hK hc i pins s σ H E I hf st hg
    subst hP hw hK
    have sz := st.sizes
    obtain ⟨e1, e2, ⟨u, v, e3⟩, e4, e5⟩ := st
    obtain ⟨xs, ys, hx, hy, lx, ly⟩ := hg
    obtain ⟨us, rx, p1, _⟩ := I.list hx
    obtain ⟨ws, ry, p2, _⟩ := I.tuple hy
    have nx := rx.length
    have ny := ry.length
    have hd : X.A.in1.handled = none := I.ok.hd hc
    have na : a ≠ i1 := fun e => by
      obtain ⟨o, eo, co, _⟩ := e4
      obtain ⟨o', _, eo', co', _⟩ := p1
      rw [e, eo] at eo'
      cases eo'
      rw [co] at co'
      simp at co'
    have nb : b ≠ i2 := fun e => by
      obtain ⟨o, eo, co, _⟩ := e5
      obtain ⟨o', eo', co', _⟩ := p2
      rw [e, eo] at eo'
      cases eo'
      rw [co] at co'
      simp at co'
    refine wpAny_pyNext_zipD2_item S (Draws.list hd i1 a na us.toArray) (Draws.tuple hd i2 b nb ws.toArray) e1 e2 e3 ⟨e4, p1.isList⟩ ⟨e5, p2⟩ (by simp; omega) (by simp; omega) ?_
    intro x1 x2 h1 tk q1 q2 z1 t1 s1 s2 nw hs hk
    refine ⟨_, rfl, wpAny_letOwnedTupleGo_zip (s := { s with heap := h1, toks := tk }) z1 fun h2 z2 sb => ?_⟩
    obtain ⟨x, gx⟩ : ∃ x, xs[i]? = some x := ⟨_, List.getElem?_eq_getElem lx⟩
    obtain ⟨y, gy⟩ : ∃ y, ys[i]? = some y := ⟨_, List.getElem?_eq_getElem ly⟩
    obtain ⟨ux, gux, rux⟩ := rx.get gx
    obtain ⟨uy, guy, ruy⟩ := ry.get gy
    have ex : x1 = ux := by
      rw [List.getElem?_toArray, gux] at q1
      exact (Option.some.inj q1).symm
    have ey : x2 = uy := by
      rw [List.getElem?_toArray, guy] at q2
      exact (Option.some.inj q2).symm
    subst ex ey
    have ne : ∀ {c : Addr}, c < s.heap.objs.size → s.heap.objs.size ≠ c := fun h => Nat.ne_of_gt h
    have new2 : h2.get? s.heap.objs.size = some { cls := .type "tuple", data := .seq #[x1, x2] } := (sb.2 _ (ne sz.1)).trans nw
    have kp : ∀ c o, c ∉ [z, p, q, i1, i2] → s.heap.get? c = some o → h2.get? c = some o := fun c o hc e => by
      have m : ∀ d, d ∈ [z, p, q, i1, i2] → c ≠ d := fun d hd e => hc (e ▸ hd)
      exact (sb.2 c (m z (by simp))).trans (hk c o (m z (by simp)) (m q (by simp)) (m i1 (by simp)) (m i2 (by simp)) e)
    have ok : ObjOk X.prog X.w (upd H s.heap.objs.size (.tup [x, y])) h2 s.heap.objs.size (.tup [x, y]) :=
      ⟨(show 2 ≤ sizeLine by decide), [x1, x2], .cons rux (.cons ruy .nil), ⟨_, new2, rfl, 0, rfl⟩⟩
    have J := I.turnedNew (t' := tk) kp hf (Nat.le_refl _) ok
    refine ⟨.ref s.heap.objs.size, _, J, rfl, ⟨_, x, y, rfl, I.hok.fresh (Nat.le_refl _), rfl, fun l hl => by rw [I.list_inj hl hx]; exact gx, fun l hl => by rw [I.tuple_inj hl hy]; exact gy⟩, ?_, fun c hcm => ?_⟩
    · refine ⟨z2, (sb.2 _ S.TIz).trans (hk _ _ S.TIz S.TITO S.TIi1 S.TIi2 e2), ⟨_, _, (sb.2 _ S.TOz).trans t1⟩, s1.1.at fun o e => (sb.2 _ S.zi1.symm).trans e, s2.1.at fun o e => (sb.2 _ S.zi2.symm).trans e⟩
    · rw [upd_ne]
      · exact (hf c hcm).1
      · rcases in5 hcm with rfl | rfl | rfl | rfl | rfl
        · exact (ne sz.1).symm
        · exact (ne sz.2.1).symm
        · exact (ne sz.2.2.1).symm
        · exact (ne sz.2.2.2.1).symm
        · exact (ne sz.2.2.2.2).symm
  case done =>
    intro X hP hw hK hc i pins s σ H E I hf st hg
    subst hP hw hK
    obtain ⟨e1, e2, ⟨u, v, e3⟩, e4, e5⟩ := st
    obtain ⟨xs, ys, hx, hy, lx, ly, hend⟩ := hg
    obtain ⟨us, rx, p1, _⟩ := I.list hx
    obtain ⟨ws, ry, p2, _⟩ := I.tuple hy
    have nx := rx.length
    have ny := ry.length
    have hd : X.A.in1.handled = none := I.ok.hd hc
    have na : a ≠ i1 := fun e => by
      obtain ⟨o, eo, co, _⟩ := e4
      obtain ⟨o', _, eo', co', _⟩ := p1
      rw [e, eo] at eo'
      cases eo'
      rw [co] at co'
      simp at co'
    have nb : b ≠ i2 := fun e => by
      obtain ⟨o, eo, co, _⟩ := e5
      obtain ⟨o', eo', co', _⟩ := p2
      rw [e, eo] at eo'
      cases eo'
      rw [co] at co'
      simp at co'
    refine wpAny_pyNext_zipD2_end S (Draws.list hd i1 a na us.toArray) (Draws.tuple hd i2 b nb ws.toArray) e1 e2 e3 ⟨e4, p1.isList⟩ ⟨e5, p2⟩ (by simp; omega) (by simp; omega) (by simp; omega) ?_
    intro h1 tk hk
    exact ⟨rfl, I.turnedL (t' := tk) (ch := [z, p, q, i1, i2]) (fun c o hc e => by
      have m : ∀ d, d ∈ [z, p, q, i1, i2] → c ≠ d := fun d hd e => hc (e ▸ hd)
      exact hk c o (m z (by simp)) (m q (by simp)) (m i1 (by simp)) (m i2 (by simp)) e) hf⟩
  case self => exact fun A i s Q E st h => wpAny_pyIter_zip st.1 h
def iZipM (K : PySem.W.Frag) (ta : TA) : TI := fun σ H R => ta σ H fun vs H1 => ∃ a b xs ys, vs = [.ref a, .ref b] ∧ SqL K H1 a xs ∧ SqT K H1 b ys ∧ R (ItzM K a b) H1
theorem pi_zipM {X : Cx} {e e2 : Expr} {ta : TA} {p pos tpos : Pos} {elts : List Expr} {kk : Nat} (hg : Gl X "zip") (hm : X.mg "zip" = none) (ha : PA X [e, e2] ta)
    (hs : starEach [e, e2] X.env = (false, eval e X.env) :: starEach [e2] X.env := by rfl) (hpl : (backTo pos (starEach [e2] X.env)).any (·.1) = false := by rfl) :
    PI X (.Tuple elts kk tpos) (.Call (.Name "zip" p) [e, e2] [] pos) (iZipM X.K ta) := by
  refine ⟨fun pins s σ H R I h => Call_ (ld_blt I hg hm PyProof.Rows.boot_zip (PyProof.Rows.callWith_type1 (thn (ha.run pos pins s σ H _ I h) ?_) hs hpl))⟩
  rintro us s1 ⟨vs, H1, I1, r1, a, b, xs, ys, rfl, hx, hy, go⟩
  obtain ⟨u1, u2, rfl, ra, rb⟩ : ∃ u1 u2, us = [u1, u2] ∧ RelV (.ref a) u1 ∧ RelV (.ref b) u2 := by
    cases r1 with
    | cons r rr =>
      cases rr with
      | cons r' rr =>
        cases rr
        exact ⟨_, _, rfl, r, r'⟩
  cases (show u1 = Value.ref a from ra)
  cases (show u2 = Value.ref b from rb)
  obtain ⟨us, rx, p1, _⟩ := I1.list hx
  obtain ⟨ws, ry, p2, _⟩ := I1.tuple hy
  have la : a < s1.heap.objs.size := p1.lt
  have lb : b < s1.heap.objs.size := by
    obtain ⟨_, e, _⟩ := id p2
    exact Heap.lt_size e
  refine zip_begins2 (begins_list a us.toArray) (begins_tuple b ws.toArray) p1.isList p2 ?_
  intro h1 hz hp hq g1 g2 hsz hk
  refine wpAny_pyIter_zip hz ?_
  have sep := zip_sep2 (N := s1.heap.objs.size) (fp1 := [a]) (fp2 := [b]) (fun c hc => by
    have e : c = a := by simpa using hc
    rw [e]; exact la) (fun c hc => by
    have e : c = b := by simpa using hc
    rw [e]; exact lb)
  refine ⟨_, _, _, _, H1, rfl, I1.kept (t' := s1.toks) hk, turn_mix sep, ⟨hz, hp, ⟨_, _, hq⟩, ⟨_, g1, rfl, rfl⟩, ⟨_, g2, rfl, rfl⟩⟩, fun c hc => ?_, go⟩
  have hle : s1.heap.objs.size ≤ c := by
    rcases in5 hc with e | e | e | e | e
    · rw [e]; exact Nat.le_add_right _ _
    · rw [e]; exact Nat.le_add_right _ _
    · rw [e]; exact Nat.le_add_right _ _
    · rw [e]; exact Nat.le_refl _
    · rw [e]; exact Nat.le_add_right _ _
  exact I1.fpOk hle (I1.hok.fresh hle)
theorem walk_mix {K : PySem.W.Frag} {a b : Addr} {xs ys : List V} {n : Nat} (h1 : xs.length = n) (h2 : ys.length = n) : Walk (ItzM K a b) n (fun H => SqL K H a xs ∧ SqT K H b ys) (YPair (fun i => xs[i]?) (fun i => ys[i]?)) := by
  refine ⟨fun i H hi q => ⟨xs, ys, q.1, q.2, by omega, by omega⟩, fun H q => ⟨xs, ys, q.1, q.2, by omega, by omega, by omega⟩, fun i H v H' hi q y => ?_⟩
  obtain ⟨p, x, y, e1, e2, e3, e4, e5⟩ := y
  exact ⟨p, x, y, e1, e2, e3, e4 _ q.1, e5 _ q.2⟩
/-- a for, a comprehension by a walk -/
theorem x_forI {wi : TI} {g : TG} {tb : TS} {D : Ends} {σ : L2.St} {H : Hp} {J : It} {n : Nat} {G : Hp → Prop} {Y : Nat → Hp → V → Hp → Prop} (hw : ∀ R : It → Hp → Prop, R J H → wi σ H R) (w : Walk J n G Y) (P : Nat → L2.St → Hp → Prop) (h0 : P 0 σ H)
    (hG : ∀ i σ' H', i ≤ n → P i σ' H' → G H') (hs : ∀ i x σ' H' H2, i < n → P i σ' H' → Y i H' x H2 → g x σ' H2 fun σ2 H3 => tb ⟨P (i + 1), D.rt, D.nx, P (i + 1)⟩ σ2 H3) (hd : ∀ σ' H', P n σ' H' → D.nx σ' H') : tFor wi g tb D σ H :=
  hw _ (for_it w P h0 hG hs hd)
theorem x_lcI {wi : TI} {g : TG} {te : TE} {vs : List Nat} {Q : VK} {σ : L2.St} {H : Hp} {J : It} {n : Nat} {G : Hp → Prop} {Y : Nat → Hp → V → Hp → Prop} (hw : ∀ R : It → Hp → Prop, R J H → wi σ H R) (w : Walk J n G Y) (P : Addr → Nat → Hp → Prop) (h0 : ∀ p, H p = none → P p 0 (upd H p (.lst [])))
    (hG : ∀ p i H', i ≤ n → H p = none → P p i H' → G H')
    (hs : ∀ p i x H' H2, i < n → H p = none → P p i H' → Y i H' x H2 → g x (wipe σ vs) H2 fun σ2 H3 => wipe σ2 vs = wipe σ vs ∧ te σ2 H3 fun y H4 => ∃ acc, H4 p = some (.lst acc) ∧ acc.length < sizeLine ∧ P p (i + 1) (upd H4 p (.lst (acc ++ [y]))))
    (hg : ∀ x σ' H' (R R' : L2.St → Hp → Prop), (∀ σ2 H2, R σ2 H2 → R' σ2 H2) → g x σ' H' R → g x σ' H' R') (hd : ∀ p H', H p = none → P p n H' → Q (.ref p) H') : tLc wi g tYes te vs σ H Q := by
  refine hw _ fun p hp => ?_
  refine lc_it w (Qd := fun H' => Q (.ref p) H') (P p) (h0 p hp) (fun i H' hi q => hG p i H' hi hp q) (fun i x H' H2 hi q y => ?_) fun H' q => hd p H' hp q
  refine hg _ _ _ _ _ (fun σ2 H3 z => ?_) (hs p i x H' H2 hi hp q y)
  refine ⟨z.1, ?_⟩
  unfold tYes
  exact iteT z.2
/-- a comprehension of truths, item by item -/
theorem x_lcB {wi : TI} {te : TE} {vs : List Nat} {j : Nat} {Q : VK} {σ : L2.St} {H : Hp} {J : It} {G : Hp → Prop} {xs : List V} (f : Nat → Bool) (hw : ∀ R : It → Hp → Prop, R J H → wi σ H R) (w : Walk J xs.length G (YAt xs)) (hn : xs.length ≤ 100000)
    (hG : ∀ H', Same H H' → G H') (hv : ∀ x, wipe ((wipe σ vs).set j (some x)) vs = wipe σ vs)
    (he : ∀ (i : Nat) x H', Same H H' → xs[i]? = some x → ∀ R : VK, (∀ H2, Same H' H2 → R (.bl (f i)) H2) → te ((wipe σ vs).set j (some x)) H' R)
    (hd : ∀ p H', H p = none → Same H H' → H' p = some (.lst (((List.range xs.length).map f).map V.bl)) → Q (.ref p) H') : tLc wi (gName j) tYes te vs σ H Q := by
  refine x_lcI hw w (fun p i H' => Same H H' ∧ H' p = some (.lst (((List.range i).map f).map V.bl))) (fun p hp => ⟨same_upd hp, upd_same⟩) (fun p i H' _ _ z => hG H' z.1) ?_ (fun x σ' H' R R' hr h => hr _ _ h) fun p H' hp z => hd p H' hp z.1 z.2
  rintro p i x H' H2 hi hp ⟨hs, hl⟩ ⟨rfl, hx⟩
  refine x_gName ⟨hv x, he i x _ hs hx _ fun H3 hs3 => ?_⟩
  refine ⟨_, hs3 _ _ hl, lt_line (by simp; omega), sput (hs.trans hs3) hp, ?_⟩
  rw [upd_same, List.range_succ, List.map_append, List.map_append]
  rfl
theorem x_all {K : PySem.W.Frag} {Q : VK} {H : Hp} {p : Addr} {bs : List Bool} (h : H p = some (.lst (bs.map V.bl))) (q : Q (.bl (bs.all id)) H) : rAll K [.ref p] H Q := ⟨p, bs, rfl, sq_of h, q⟩
theorem x_any {K : PySem.W.Frag} {Q : VK} {H : Hp} {p : Addr} {bs : List Bool} (h : H p = some (.lst (bs.map V.bl))) (q : Q (.bl (bs.any id)) H) : rAny K [.ref p] H Q := ⟨p, bs, rfl, sq_of h, q⟩
theorem all_range {n : Nat} {f : Nat → Bool} (h : ∀ i, i < n → f i = true) : ((List.range n).map f).all id = true := by
  rw [List.all_eq_true]
  intro b hb
  obtain ⟨i, hi, rfl⟩ := List.mem_map.mp hb
  exact h i (List.mem_range.mp hi)
/-- the same, over something made on the way -/
theorem x_lcB0 {wi : TI} {te : TE} {vs : List Nat} {j : Nat} {Q : VK} {σ : L2.St} {H : Hp} {xs : List V} (f : Nat → Bool) (hn : xs.length ≤ 100000)
    (hw : ∀ R : It → Hp → Prop, (∀ (J : It) (G : Hp → Prop) (H1 : Hp), Same H H1 → Walk J xs.length G (YAt xs) → (∀ H', Same H1 H' → G H') → R J H1) → wi σ H R) (hv : ∀ x, wipe ((wipe σ vs).set j (some x)) vs = wipe σ vs)
    (he : ∀ (i : Nat) x H', Same H H' → xs[i]? = some x → ∀ R : VK, (∀ H2, Same H' H2 → R (.bl (f i)) H2) → te ((wipe σ vs).set j (some x)) H' R)
    (hd : ∀ p H', Same H H' → H' p = some (.lst (((List.range xs.length).map f).map V.bl)) → Q (.ref p) H') : tLc wi (gName j) tYes te vs σ H Q := by
  refine hw _ fun J G H1 s1 w hG => ?_
  exact x_lcB (wi := fun _ H R => R J H) (H := H1) f (fun R r => r) w hn hG hv (fun i x H' s hx R hR => he i x H' (s1.trans s) hx R hR) fun p H' _ s h => hd p H' (s1.trans s) h
end Br

/-! ### tables in the heap -/
namespace Br
open PySem PySem.Spec PyProof.Rows L2 Br.F
theorem map_app {xs : List Int} {y : Int} {H : Hp} {a : Addr} : (L2.upd H a (.lst (xs.map V.int ++ [.int y]))) a = some (.lst ((xs ++ [y]).map V.int)) := by rw [upd_same, List.map_append]; rfl
def TabAt (K : PySem.W.Frag) (H : Hp) (a : Addr) (t : List (List Int)) : Prop := ∃ as : List Addr, SqT K H a (as.map V.ref) ∧ as.length = t.length ∧ ∀ (i : Nat) r b, t[i]? = some r → as[i]? = some b → SqT K H b (r.map V.int)
theorem TabAt.same {K : PySem.W.Frag} {H H' : Hp} {a : Addr} {t : List (List Int)} (h : TabAt K H a t) (s : Same H H') : TabAt K H' a t := by
  obtain ⟨as, h1, h2, h3⟩ := h
  exact ⟨as, seqT s h1, h2, fun i r b e1 e2 => seqT s (h3 i r b e1 e2)⟩
structure IsTab (p : Nat) (t : List (List Int)) : Prop where
  pos : 1 ≤ t.length
  le : t.length ≤ p
  rows : ∀ (i : Nat) r, t[i]? = some r → r.length = t.length ∧ Rg 0 p r
theorem get_getD {l : List Int} {i : Nat} (h : i < l.length) : l[i]? = some (l.getD i 0) := by rw [List.getD_eq_getElem?_getD, List.getElem?_eq_getElem h]; rfl
theorem getD_of {l : List Int} {i : Nat} {z : Int} (h : l[i]? = some z) : l.getD i 0 = z := by rw [List.getD_eq_getElem?_getD, h]; rfl
theorem dvd_step {p ab U d : Int} (h : p ∣ ab - U) : p ∣ ab * d % p - U * d := by
  obtain ⟨u, hu⟩ := h
  have h4 := Int.mul_ediv_add_emod (ab * d) p
  refine ⟨u * d - ab * d / p, ?_⟩
  have e : ab = U + p * u := by omega
  grind
theorem TabAt.get {K : PySem.W.Frag} {H : Hp} {a : Addr} {t : List (List Int)} {as : List Addr} (h : as.length = t.length) (h3 : ∀ (i : Nat) r b, t[i]? = some r → as[i]? = some b → SqT K H b (r.map V.int)) {i : Nat} (hi : i < t.length) : ∃ r b, t[i]? = some r ∧ as[i]? = some b ∧ SqT K H b (r.map V.int) :=
  ⟨_, _, List.getElem?_eq_getElem hi, List.getElem?_eq_getElem (by omega), h3 i _ _ (List.getElem?_eq_getElem hi) (List.getElem?_eq_getElem (by omega))⟩
end Br

/-! ### match over tuples that begin with a word -/
namespace Br
open PySem PySem.Spec PyProof.Rows L2
/-- the values that captures bind, by name -/
def capB : List Pattern → List Value → List (Str × Value)
  | .MatchAs none (some x) _ :: ps, u :: us => (x, u) :: capB ps us
  | .MatchAs none none _ :: ps, _ :: us => capB ps us
  | _, _ => []
def isCaps : List Pattern → Bool
  | [] => true
  | .MatchAs none _ _ :: ps => isCaps ps
  | _ => false
/-- the slots behind captures -/
def bindS : List (Option Nat) → List V → L2.St → L2.St
  | some i :: is, v :: vs, σ => bindS is vs (σ.set i (some v))
  | none :: is, _ :: vs, σ => bindS is vs σ
  | _, _, σ => σ
theorem each_caps {M : Model} {A : Around} {E : Value → Shared → Prop} {s : Shared} {env : Env} : ∀ {ps : List Pattern} {us : List Value} {Q : Option (List (Str × Value)) → Shared → Prop}, isCaps ps = true → us.length = ps.length → Q (some (capB ps us)) s → wpAny M A (matchEach ps env us) Q E s
  | [], us, Q, _, _, h => by
    have e : capB [] us = [] := by cases us <;> rfl
    rw [e] at h
    exact wpAny_matchEach_nil h
  | .MatchAs none nm pos :: ps, u :: us, Q, hc, hl, h => by
    refine wpAny_matchEach_cons (wpAny_matchPattern_Capture (each_caps (ps := ps) hc (by simpa using hl) ?_)) rfl
    cases nm with
    | none => exact h
    | some x => exact h
  | .MatchAs none nm pos :: ps, [], Q, hc, hl, h => by simp at hl
  | .MatchAs (some p) nm pos :: ps, us, Q, hc, hl, h => by simp [isCaps] at hc
  | .MatchValue .. :: ps, us, Q, hc, hl, h => by simp [isCaps] at hc
  | .MatchSingleton .. :: ps, us, Q, hc, hl, h => by simp [isCaps] at hc
  | .MatchSequence .. :: ps, us, Q, hc, hl, h => by simp [isCaps] at hc
  | .MatchMapping .. :: ps, us, Q, hc, hl, h => by simp [isCaps] at hc
  | .MatchClass .. :: ps, us, Q, hc, hl, h => by simp [isCaps] at hc
  | .MatchStar .. :: ps, us, Q, hc, hl, h => by simp [isCaps] at hc
  | .MatchOr .. :: ps, us, Q, hc, hl, h => by simp [isCaps] at hc
/-- captures into slots -/
structure PCap (X : Cx) (ps : List Pattern) (is : List (Option Nat)) : Prop where
  caps : isCaps ps = true
  run : ∀ (pins : List (Addr × Obj)) (s : Shared) (σ : L2.St) (H : Hp) (vs : List V) (us : List Value), Inv X pins σ H s → Vals vs us → us.length = ps.length →
    wpAny (model X.prog X.w) X.A (assignInOrder ((capB ps us).map fun (n, _) => bindName X.env n) ((capB ps us).map (·.2))) (fun _ s' => Inv X pins (bindS is vs σ) H s') X.xe s
section
variable {X : Cx}
theorem pcap_nil : PCap X [] [] := ⟨rfl, fun pins s σ H vs us I r hl => by
  have e : us = [] := List.length_eq_zero_iff.mp hl
  subst e
  cases r
  exact wpAny_assignInOrder_none I⟩
theorem pcap_name (i : Nat) {x : Str} {pos : Pos} {ps : List Pattern} {is : List (Option Nat)} (hN : X.N.Nodup) (hi : X.N[i]? = some x) (hx : Loc X.env.scope x) (h : PCap X ps is) (hf : X.fn x = true ∨ X.env.scope.names.lookup x = some .local := by first | exact .inl rfl | exact .inr rfl) :
    PCap X (.MatchAs none (some x) pos :: ps) (some i :: is) := ⟨h.caps, fun pins s σ H vs us I r hl => by
  cases r with
  | nil => simp at hl
  | cons rv rr =>
    refine wpAny_assignInOrder_more (wpAny_bindName (store_ok I hN hi hx rv (fun s' I' => ?_) hf))
    exact h.run pins s' _ H _ _ I' rr (by simpa using hl)⟩
theorem pcap_wild {pos : Pos} {ps : List Pattern} {is : List (Option Nat)} (h : PCap X ps is) : PCap X (.MatchAs none none pos :: ps) (none :: is) := ⟨h.caps, fun pins s σ H vs us I r hl => by
  cases r with
  | nil => simp at hl
  | cons rv rr => exact h.run pins s _ H _ _ I rr (by simpa using hl)⟩
/-- the cases of a match, asked of a value -/
structure PCs (X : Cx) (cs : List MatchCase) (t : V → TS) : Prop where
  run : ∀ (first : Bool) (pins : List (Addr × Obj)) (s : Shared) (σ : L2.St) (H : Hp) (D : Ends) (v : V) (u : Value), Inv X pins σ H s → RelV v u → t v D σ H → wpAny (model X.prog X.w) X.A (matchCases cs X.env u first) (SP X pins D) X.xe s
def tMatch (te : TE) (t : V → TS) : TS := fun D σ H => te σ H fun v H1 => t v D σ H1
theorem ps_match {e : Expr} {te : TE} {cs : List MatchCase} {t : V → TS} {pos : Pos} (he : PE X e te) (hc : PCs X cs t) : PS X (.Match e cs pos) (tMatch te t) :=
  ⟨fun pins s σ H D I h => wpAny_Match (thn (he.run pins s σ H _ I h) fun u s1 ⟨v, H1, I1, r, q⟩ => hc.run true pins s1 σ H1 D v u I1 r q)⟩
def tNoCase : V → TS := fun _ D σ H => D.nx σ H
theorem pcs_nil : PCs X [] tNoCase := ⟨fun _ _ _ σ H _ _ _ I _ h => wpAny_matchCases_nil ⟨σ, H, I, h⟩⟩
def tElse (t : TS) : V → TS := fun _ => t
theorem pcs_else {pos : Pos} {body : List Stmt} {rest : List MatchCase} {t : TS} (hb : PSs X body t) : PCs X (⟨.MatchAs none none pos, none, body⟩ :: rest) (tElse t) :=
  ⟨fun _ pins s σ H D v u I r h => wpAny_matchCases_cons (wpAny_matchPattern_Capture (wpAny_assignInOrder_none (hb.run pins s σ H D I h)))⟩
/-- a tuple of n parts that begins with the word -/
def tSeqW (K : PySem.W.Frag) (r : R2) (n : Nat) (word : Str) (is : List (Option Nat)) (body : TS) (rest : V → TS) : V → TS := fun v D σ H => ∃ (a : Addr) (xs : List V), v = .ref a ∧ SqT K H a xs ∧
  ((xs.length ≠ n ∧ rest v D σ H) ∨ ∃ y ys, xs = y :: ys ∧ xs.length = n ∧ r y (.str word) H fun z H1 => ∃ k, z = .bl k ∧ if k = true then body D (bindS is ys σ) H1 else rest v D σ H1)
theorem pcs_seq {r : R2} {n : Nat} {word : Str} {j : Nat} {p1 p2 p3 : Pos} {ps : List Pattern} {is : List (Option Nat)} {body : List Stmt} {rest : List MatchCase} {tb : TS} {tr : V → TS} (hc : X.calm = true) (ho : OpR X (compareOp .Eq) r) (hp : PCap X ps is) (hb : PSs X body tb) (hr : PCs X rest tr) (hn : ps.length + 1 = n := by rfl)
    (hs : (Pattern.MatchValue (.Constant (.str word) j p1) p2 :: ps).findIdx? (·.isStar) = none := by rfl) (hw : ((Pattern.MatchValue (.Constant (.str word) j p1) p2 :: ps).all fun p => p.isWildcard || (p.isStar && p.names.isEmpty)) = false := by rfl) :
    PCs X (⟨.MatchSequence (.MatchValue (.Constant (.str word) j p1) p2 :: ps) p3, none, body⟩ :: rest) (tSeqW X.K r n word is tb tr) := by
  refine ⟨fun first pins s σ H D v u I rv h => ?_⟩
  obtain ⟨a, xs, rfl, hx, h⟩ := h
  cases (show u = Value.ref a from rv)
  obtain ⟨its, ri, ht, hz⟩ := I.tuple hx
  have hl := ri.length
  have hfit : ((its.toArray.size : Nat) : Int) < 2 ^ 63 := by
    have h1 : its.length ≤ sizeLine := by rw [← hl]; exact hz
    have h2 : sizeLine < 2 ^ 63 := by decide
    have h3 : its.toArray.size < 2 ^ 63 := Nat.lt_of_le_of_lt (by simpa using h1) h2
    omega
  rcases h with ⟨hne, q⟩ | ⟨y, ys, rfl, hxl, q⟩
  · refine wpAny_matchCases_cons (matchSeq_tuple_miss ht hfit (by simp; omega) ?_ hs hw)
    exact hr.run false pins _ σ H D (.ref a) _ (I.tok _) rfl q
  · cases ri with
    | cons ry rys =>
      rename_i uy uys
      have hly := rys.length
      have sz : (uy :: uys).toArray.size = ps.length + 1 := by simp at hxl ⊢; omega
      refine wpAny_matchCases_cons (matchSeq_tuple_hit ht hfit (by simpa using sz) ?_ hs hw)
      have e : (Pattern.MatchValue (.Constant (.str word) j p1) p2 :: ps).length = (uy :: uys).toArray.size := sz.symm
      rw [e]
      refine unpackItems_tuple (I.ok.hd hc) ht fun h' hk => ?_
      have I2 : Inv X pins σ H { s with heap := h', toks := s.toks + 1 + 1 } := I.kept fun b o e => hk b o (Nat.ne_of_lt (Heap.lt_size e)) e
      refine wpAny_matchEach_cons (wpAny_matchPattern_Value ?_) rfl
      refine Calls.Constant_str ?_
      refine thn (ho pins _ σ H y (.str word) uy _ _ (I2.tok _) ry ⟨_, rfl⟩ q) fun c s3 ⟨z, H3, I3, rz, k, ez, q3⟩ => ?_
      subst ez
      cases rz
      refine wpAny_truthy_bool ?_
      cases k with
      | false =>
        rw [if_neg Bool.false_ne_true] at q3 ⊢
        exact hr.run false pins s3 σ H3 D (.ref a) _ I3 rfl q3
      | true =>
        rw [if_pos rfl] at q3 ⊢
        refine each_caps hp.caps (by simp at sz; exact sz) ?_
        refine thn (hp.run pins s3 σ H3 ys uys I3 rys (by simp at sz; exact sz)) fun _ s4 I4 => ?_
        exact hb.run pins s4 _ H3 D I4 q3
end
/-! ### steps of the reading -/
section
variable {σ : L2.St} {H : Hp} {D : Ends} {K : PySem.W.Frag} {v : V} {te : TE} {t : V → TS}
theorem x_match (h : te σ H fun v H1 => t v D σ H1) : tMatch te t D σ H := h
theorem x_else {t : TS} (h : t D σ H) : tElse t v D σ H := h
theorem x_noCase (h : D.nx σ H) : tNoCase v D σ H := h
theorem x_caseNo {r : R2} {n : Nat} {word : Str} {is : List (Option Nat)} {body : TS} {a : Addr} {xs : List V} (ha : SqT K H a xs) (hl : xs.length ≠ n) (h : t (.ref a) D σ H) : tSeqW K r n word is body t (.ref a) D σ H :=
  ⟨a, xs, rfl, ha, .inl ⟨hl, h⟩⟩
theorem x_caseW {n : Nat} {word w : Str} {is : List (Option Nat)} {body : TS} {a : Addr} {ys : List V} (ha : SqT K H a (.str w :: ys)) (hl : ys.length + 1 = n) (hw : w ≠ word) (h : t (.ref a) D σ H) : tSeqW K rEq n word is body t (.ref a) D σ H :=
  ⟨a, _, rfl, ha, .inr ⟨_, ys, rfl, hl, rfl, false, by rw [decide_eq_false (fun e => hw (V.str.inj e))], iteF h⟩⟩
theorem x_caseY {n : Nat} {word : Str} {is : List (Option Nat)} {body : TS} {a : Addr} {ys : List V} (ha : SqT K H a (.str word :: ys)) (hl : ys.length + 1 = n) (h : body D (bindS is ys σ) H) : tSeqW K rEq n word is body t (.ref a) D σ H :=
  ⟨a, _, rfl, ha, .inr ⟨_, ys, rfl, hl, rfl, true, by rw [decide_eq_true rfl], iteT h⟩⟩
end
end Br

/-! ### what `_law_equal` finds alike -/
namespace Br
open PySem PySem.Spec PyProof.Rows L2
/-- alike up to a depth -/
def Eqv (K : PySem.W.Frag) (H : Hp) : Nat → V → V → Prop
  | 0, _, _ => False
  | n + 1, v, u => (∃ i : Int, v = .int i ∧ u = .int i) ∨ (∃ x : Str, v = .str x ∧ u = .str x) ∨ (∃ b : Bool, v = .bl b ∧ u = .bl b) ∨ (v = .non ∧ u = .non) ∨
      (∃ (a b : Addr) (xs ys : List V), v = .ref a ∧ u = .ref b ∧ ((H a = some (.lst xs) ∧ H b = some (.lst ys)) ∨ (H a = some (.tup xs) ∧ H b = some (.tup ys))) ∧ xs.length = ys.length ∧ ys.length ≤ 100000 ∧ ∀ (i : Nat) x y, xs[i]? = some x → ys[i]? = some y → Eqv K H n x y)
theorem Eqv.mono {K : PySem.W.Frag} {H : Hp} : ∀ {n m : Nat} {v u : V}, n ≤ m → Eqv K H n v u → Eqv K H m v u
  | 0, _, _, _, _, h => h.elim
  | n + 1, m, v, u, hm, h => by
    obtain ⟨k, rfl⟩ : ∃ k, m = k + 1 := ⟨m - 1, by omega⟩
    rcases h with h | h | h | h | ⟨a, b, xs, ys, e1, e2, e3, e4, e5, e6⟩
    · exact .inl h
    · exact .inr (.inl h)
    · exact .inr (.inr (.inl h))
    · exact .inr (.inr (.inr (.inl h)))
    · exact .inr (.inr (.inr (.inr ⟨a, b, xs, ys, e1, e2, e3, e4, e5, fun i x y h1 h2 => Eqv.mono (by omega) (e6 i x y h1 h2)⟩)))
theorem Eqv.int {K : PySem.W.Frag} {H : Hp} {n : Nat} {i : Int} : Eqv K H (n + 1) (.int i) (.int i) := .inl ⟨i, rfl, rfl⟩
theorem Eqv.str {K : PySem.W.Frag} {H : Hp} {n : Nat} {x : Str} : Eqv K H (n + 1) (.str x) (.str x) := .inr (.inl ⟨x, rfl, rfl⟩)
theorem Eqv.bl {K : PySem.W.Frag} {H : Hp} {n : Nat} {b : Bool} : Eqv K H (n + 1) (.bl b) (.bl b) := .inr (.inr (.inl ⟨b, rfl, rfl⟩))
theorem Eqv.non {K : PySem.W.Frag} {H : Hp} {n : Nat} : Eqv K H (n + 1) .non .non := .inr (.inr (.inr (.inl ⟨rfl, rfl⟩)))
theorem Eqv.tup {K : PySem.W.Frag} {H : Hp} {n : Nat} {a b : Addr} {xs ys : List V} (h1 : H a = some (.tup xs)) (h2 : H b = some (.tup ys)) (hl : xs.length = ys.length) (hz : ys.length ≤ 100000) (h : ∀ (i : Nat) x y, xs[i]? = some x → ys[i]? = some y → Eqv K H n x y) : Eqv K H (n + 1) (.ref a) (.ref b) :=
  .inr (.inr (.inr (.inr ⟨a, b, xs, ys, rfl, rfl, .inr ⟨h1, h2⟩, hl, hz, h⟩)))
theorem Eqv.lst {K : PySem.W.Frag} {H : Hp} {n : Nat} {a b : Addr} {xs ys : List V} (h1 : H a = some (.lst xs)) (h2 : H b = some (.lst ys)) (hl : xs.length = ys.length) (hz : ys.length ≤ 100000) (h : ∀ (i : Nat) x y, xs[i]? = some x → ys[i]? = some y → Eqv K H n x y) : Eqv K H (n + 1) (.ref a) (.ref b) :=
  .inr (.inr (.inr (.inr ⟨a, b, xs, ys, rfl, rfl, .inl ⟨h1, h2⟩, hl, hz, h⟩)))
theorem Eqv.ints {K : PySem.W.Frag} {H : Hp} {n : Nat} {a b : Addr} {xs : List Int} (h1 : H a = some (.lst (xs.map V.int))) (h2 : H b = some (.lst (xs.map V.int))) (hz : xs.length ≤ 100000) : Eqv K H (n + 2) (.ref a) (.ref b) :=
  Eqv.lst h1 h2 rfl (by rw [List.length_map]; exact hz) fun i x y e1 e2 => by
    rw [e1] at e2
    cases e2
    obtain ⟨z, _, rfl⟩ := map_get e1
    exact .int
/-- a tuple of few parts is alike to itself -/
theorem Eqv.self2 {K : PySem.W.Frag} {H : Hp} {n : Nat} {a : Addr} {xs : List V} (h1 : H a = some (.tup xs)) (hz : xs.length ≤ 100000) (h : ∀ x, x ∈ xs → Eqv K H n x x) : Eqv K H (n + 1) (.ref a) (.ref a) :=
  Eqv.tup h1 h1 rfl hz fun i x y e1 e2 => by
    rw [e1] at e2
    cases e2
    exact h x (List.mem_of_getElem? e1)
end Br

/-! ### steps: what they are, where they stand, what they do -/
namespace Br
open PySem PySem.Spec PyProof.Rows L2 Br.F
inductive Fac where
  | cell (i : Nat)
  | inp (i : Nat)
inductive Stp where
  | add (t : Nat) (c : Int) (fs : List Fac)
  | scale (t : Nat) (u : Int)
  | swap (a b : Nat)
  | tab (t : Nat) (s : Int) (tb : List (List Int)) (a b : Nat)
def FacOk (cells inputs t : Nat) : Fac → Prop
  | .cell i => i < cells ∧ i ≠ t
  | .inp i => i < inputs
def StpOk (m cells inputs : Nat) : Stp → Prop
  | .add t c fs => t < cells ∧ 0 ≤ c ∧ c < m ∧ fs.length ≤ 3 ∧ ∀ f, f ∈ fs → FacOk cells inputs t f
  | .scale t u => t < cells ∧ 0 ≤ u ∧ u < m ∧ Int.gcd u m = 1
  | .swap a b => a < cells ∧ b < cells ∧ a ≠ b
  | .tab t s tb a b => t < cells ∧ a < cells ∧ b < cells ∧ t ≠ a ∧ t ≠ b ∧ a ≠ b ∧ (s = 1 ∨ s = m - 1) ∧ IsTab m tb ∧ tb.length ≤ 1000 ∧ IsPrime m
/-- where they stand: tuples alone -/
def FacAt (H : Hp) (a : Addr) : Fac → Prop
  | .cell i => H a = some (.tup [.str "cell", .int (i : Int)])
  | .inp i => H a = some (.tup [.str "input", .int (i : Int)])
def TbAt (H : Hp) (a : Addr) (t : List (List Int)) : Prop := ∃ as : List Addr, H a = some (.tup (as.map V.ref)) ∧ as.length = t.length ∧ ∀ (i : Nat) r b, t[i]? = some r → as[i]? = some b → H b = some (.tup (r.map V.int))
def StpAt (H : Hp) (a : Addr) : Stp → Prop
  | .add t c fs => ∃ (f : Addr) (as : List Addr), H a = some (.tup [.str "add", .int (t : Int), .int c, .ref f]) ∧ H f = some (.tup (as.map V.ref)) ∧ as.length = fs.length ∧ ∀ (i : Nat) x b, fs[i]? = some x → as[i]? = some b → FacAt H b x
  | .scale t u => H a = some (.tup [.str "scale", .int (t : Int), .int u])
  | .swap i j => H a = some (.tup [.str "swap", .int (i : Int), .int (j : Int)])
  | .tab t s tb i j => ∃ c : Addr, H a = some (.tup [.str "table", .int (t : Int), .int s, .ref c, .int (i : Int), .int (j : Int)]) ∧ TbAt H c tb
/-- every tuple stays -/
def Tups (H H' : Hp) : Prop := ∀ b xs, H b = some (.tup xs) → H' b = some (.tup xs)
theorem Tups.refl (H : Hp) : Tups H H := fun _ _ h => h
theorem Tups.trans {H H1 H2 : Hp} (a : Tups H H1) (b : Tups H1 H2) : Tups H H2 := fun c xs h => b c xs (a c xs h)
theorem Tups.same {H H' : Hp} (s : Same H H') : Tups H H' := fun b xs h => s b _ h
theorem Tups.put {H H' : Hp} {p : Addr} {o : HO} (s : Tups H H') (h : ∀ xs, H' p ≠ some (.tup xs)) : Tups H (upd H' p o) := fun b xs e => by
  have e' := s b xs e
  rw [upd_ne (fun z => h xs (by rw [← z]; exact e'))]
  exact e'
theorem no_tup {H : Hp} {p : Addr} (h : H p = none) : ∀ xs, H p ≠ some (.tup xs) := fun xs e => by rw [h] at e; cases e
theorem no_tupL {H : Hp} {p : Addr} {ys : List V} (h : H p = some (.lst ys)) : ∀ xs, H p ≠ some (.tup xs) := fun xs e => by rw [h] at e; cases e
theorem Tups.keep {H H' : Hp} {d : Addr} {ys : List V} (k : Keep d H H') (h : H d = some (.lst ys)) : Tups H H' := fun b xs e => k b _ e (ne_of e h (by intro z; cases z))
theorem FacAt.tups {H H' : Hp} {a : Addr} {f : Fac} (h : FacAt H a f) (s : Tups H H') : FacAt H' a f := by
  cases f with
  | cell i => exact s _ _ h
  | inp i => exact s _ _ h
theorem TbAt.tups {H H' : Hp} {a : Addr} {t : List (List Int)} (h : TbAt H a t) (s : Tups H H') : TbAt H' a t := by
  obtain ⟨as, h1, h2, h3⟩ := h
  exact ⟨as, s _ _ h1, h2, fun i r b e1 e2 => s _ _ (h3 i r b e1 e2)⟩
theorem StpAt.tups {H H' : Hp} {a : Addr} {x : Stp} (h : StpAt H a x) (s : Tups H H') : StpAt H' a x := by
  cases x with
  | add t c fs =>
    obtain ⟨f, as, h1, h2, h3, h4⟩ := h
    exact ⟨f, as, s _ _ h1, s _ _ h2, h3, fun i y b e1 e2 => (h4 i y b e1 e2).tups s⟩
  | scale t u => exact s _ _ h
  | swap i j => exact s _ _ h
  | tab t g tb i j =>
    obtain ⟨c, h1, h2⟩ := h
    exact ⟨c, s _ _ h1, h2.tups s⟩
/-- many of them -/
def StpsAt (H : Hp) (as : List Addr) (ss : List Stp) : Prop := as.length = ss.length ∧ ∀ (i : Nat) x b, ss[i]? = some x → as[i]? = some b → StpAt H b x
theorem StpsAt.tups {H H' : Hp} {as : List Addr} {ss : List Stp} (h : StpsAt H as ss) (s : Tups H H') : StpsAt H' as ss := ⟨h.1, fun i x b e1 e2 => (h.2 i x b e1 e2).tups s⟩
theorem StpsAt.get {H : Hp} {as : List Addr} {ss : List Stp} (h : StpsAt H as ss) {i : Nat} {b : Addr} (e : as[i]? = some b) : ∃ x, ss[i]? = some x ∧ StpAt H b x := by
  have hl := (List.getElem?_eq_some_iff.mp e).1
  have hl2 : i < ss.length := by rw [← h.1]; exact hl
  exact ⟨_, List.getElem?_eq_getElem hl2, h.2 i _ b (List.getElem?_eq_getElem hl2) e⟩
theorem StpsAt.snoc {H : Hp} {as : List Addr} {ss : List Stp} {b : Addr} {x : Stp} (h : StpsAt H as ss) (hx : StpAt H b x) : StpsAt H (as ++ [b]) (ss ++ [x]) := by
  refine ⟨by rw [List.length_append, List.length_append, h.1]; rfl, fun i y c e1 e2 => ?_⟩
  rcases snoc_at rfl e1 with ⟨h1, e1⟩ | ⟨h1, rfl⟩
  · rcases snoc_at rfl e2 with ⟨h2, e2⟩ | ⟨h2, rfl⟩
    · exact h.2 i y c e1 e2
    · have := h.1; omega
  · rcases snoc_at rfl e2 with ⟨h2, e2⟩ | ⟨h2, rfl⟩
    · have := h.1; omega
    · exact hx
/-- numbers of a modulus, so many -/
structure Mem (m n : Nat) (xs : List Int) : Prop where
  len : xs.length = n
  rg : Rg 0 m xs
theorem Mem.get {m n : Nat} {xs : List Int} (h : Mem m n xs) {i : Nat} (hi : i < n) : ∃ z, xs[i]? = some z ∧ xs.getD i 0 = z ∧ 0 ≤ z ∧ z < m := by
  have hl : i < xs.length := by rw [h.len]; exact hi
  refine ⟨xs[i], List.getElem?_eq_getElem hl, ?_, (h.rg _ (List.getElem_mem hl)).1, (h.rg _ (List.getElem_mem hl)).2⟩
  rw [List.getD_eq_getElem?_getD, List.getElem?_eq_getElem hl]; rfl
theorem Mem.set {m n : Nat} {xs : List Int} (h : Mem m n xs) {i : Nat} {z : Int} (h0 : 0 ≤ z) (h1 : z < m) : Mem m n (xs.set i z) :=
  ⟨by rw [List.length_set, h.len], fun y hy => by
    rcases List.mem_or_eq_of_mem_set hy with h2 | h2
    · exact h.rg y h2
    · rw [h2]; exact ⟨h0, h1⟩⟩
def facV (mem inp : List Int) : Fac → Int
  | .cell i => mem.getD i 0
  | .inp i => inp.getD i 0
def prodV (mem inp : List Int) : List Fac → Int
  | [] => 1
  | f :: fs => facV mem inp f * prodV mem inp fs
/-- the value of the table's polynomial, written out -/
def ItpV (p : Nat) (t : List (List Int)) (x y : Int) : Int := S1 (fun i => BsV p t.length i x * S1 (fun j => BsV p t.length j y * (t.getD i []).getD j 0) t.length) t.length % p
theorem ItpV.ok {p : Nat} {t : List (List Int)} {x y : Int} (hp : IsPrime p) (hn : t.length ≤ p) : Itp p t x y (ItpV p t x y) :=
  ⟨fun i => BsV p t.length i x, fun j => BsV p t.length j y, fun i hi => BsV.ok hp hi hn, fun j hj => BsV.ok hp hj hn, rfl⟩
def stepF (m : Nat) (inp mem : List Int) : Stp → List Int
  | .add t c fs => mem.set t ((mem.getD t 0 + c * prodV mem inp fs) % m)
  | .scale t u => mem.set t (mem.getD t 0 * u % m)
  | .swap a b => (mem.set a (mem.getD b 0)).set b (mem.getD a 0)
  | .tab t s tb a b => mem.set t ((mem.getD t 0 + s * ItpV m tb (mem.getD a 0) (mem.getD b 0)) % m)
theorem stepF_mem {m cells : Nat} {inp mem : List Int} (hm : 1 ≤ m) (h : Mem m cells mem) : ∀ {s : Stp} {inputs : Nat}, StpOk m cells inputs s → Mem m cells (stepF m inp mem s)
  | .add t c fs, _, _ => h.set (Int.emod_nonneg _ (by omega)) (Int.emod_lt_of_pos _ (by omega))
  | .scale t u, _, _ => h.set (Int.emod_nonneg _ (by omega)) (Int.emod_lt_of_pos _ (by omega))
  | .swap a b, _, ok => by
    obtain ⟨z, _, e1, z0, z1⟩ := h.get ok.1
    obtain ⟨y, _, e2, y0, y1⟩ := h.get ok.2.1
    show Mem m cells ((mem.set a (mem.getD b 0)).set b (mem.getD a 0))
    rw [e1, e2]
    exact (h.set y0 y1).set z0 z1
  | .tab t s tb a b, _, _ => h.set (Int.emod_nonneg _ (by omega)) (Int.emod_lt_of_pos _ (by omega))
def runF (m : Nat) (inp : List Int) (ss : List Stp) (mem : List Int) : List Int := ss.foldl (fun mem s => stepF m inp mem s) mem
theorem runF_snoc {m : Nat} {inp : List Int} {ss : List Stp} {s : Stp} {mem : List Int} : runF m inp (ss ++ [s]) mem = stepF m inp (runF m inp ss mem) s := by
  unfold runF
  rw [List.foldl_append]
  rfl
theorem runF_mem {m cells inputs : Nat} {inp : List Int} (hm : 1 ≤ m) : ∀ {ss : List Stp} {mem : List Int}, Mem m cells mem → (∀ s, s ∈ ss → StpOk m cells inputs s) → Mem m cells (runF m inp ss mem)
  | [], _, h, _ => h
  | s :: ss, mem, h, hs => runF_mem (mem := stepF m inp mem s) hm (stepF_mem hm h (hs s List.mem_cons_self)) fun x hx => hs x (List.mem_cons_of_mem _ hx)
theorem take_snoc {α : Type} {ss : List α} {i : Nat} {s : α} (h : ss[i]? = some s) : ss.take (i + 1) = ss.take i ++ [s] := by rw [List.take_add_one, h]; rfl
theorem FacAt.eqv {K : PySem.W.Frag} {H : Hp} {a : Addr} {f : Fac} (h : FacAt H a f) : Eqv K H 2 (.ref a) (.ref a) := by
  cases f with
  | cell i =>
    exact Eqv.self2 h (Nat.le_of_ble_eq_true rfl) fun x hx => by
      have e : x = .str "cell" ∨ x = .int (i : Int) := by simpa using hx
      rcases e with rfl | rfl
      · exact .str
      · exact .int
  | inp i =>
    exact Eqv.self2 h (Nat.le_of_ble_eq_true rfl) fun x hx => by
      have e : x = .str "input" ∨ x = .int (i : Int) := by simpa using hx
      rcases e with rfl | rfl
      · exact .str
      · exact .int
theorem StpAt.eqv {K : PySem.W.Frag} {H : Hp} {a : Addr} {m cells inputs : Nat} {s : Stp} (ok : StpOk m cells inputs s) (h : StpAt H a s) : Eqv K H 4 (.ref a) (.ref a) := by
  cases s with
  | add t c fs =>
    obtain ⟨f, as, h1, h2, h3, h4⟩ := h
    have hf : Eqv K H 3 (.ref f) (.ref f) := Eqv.self2 h2 (by rw [List.length_map, h3]; have := ok.2.2.2.1; omega) fun x hx => by
      obtain ⟨b, hb, rfl⟩ := List.mem_map.mp hx
      obtain ⟨i, hi⟩ := List.mem_iff_getElem?.mp hb
      have hl := (List.getElem?_eq_some_iff.mp hi).1
      exact (h4 i _ b (List.getElem?_eq_getElem (by omega)) hi).eqv
    exact Eqv.self2 h1 (Nat.le_of_ble_eq_true rfl) fun x hx => by
      have e : x = .str "add" ∨ x = .int (t : Int) ∨ x = .int c ∨ x = .ref f := by simpa using hx
      rcases e with rfl | rfl | rfl | rfl
      · exact .str
      · exact .int
      · exact .int
      · exact hf
  | scale t u =>
    exact Eqv.self2 h (Nat.le_of_ble_eq_true rfl) fun x hx => by
      have e : x = .str "scale" ∨ x = .int (t : Int) ∨ x = .int u := by simpa using hx
      rcases e with rfl | rfl | rfl
      · exact .str
      · exact .int
      · exact .int
  | swap i j =>
    exact Eqv.self2 h (Nat.le_of_ble_eq_true rfl) fun x hx => by
      have e : x = .str "swap" ∨ x = .int (i : Int) ∨ x = .int (j : Int) := by simpa using hx
      rcases e with rfl | rfl | rfl
      · exact .str
      · exact .int
      · exact .int
  | tab t g tb i j =>
    obtain ⟨c, h1, as, h2, h3, h4⟩ := h
    have hlen : tb.length ≤ 1000 := ok.2.2.2.2.2.2.2.2.1
    have hI : IsTab m tb := ok.2.2.2.2.2.2.2.1
    have hc : Eqv K H 3 (.ref c) (.ref c) := Eqv.self2 h2 (by rw [List.length_map, h3]; omega) fun x hx => by
      obtain ⟨b, hb, rfl⟩ := List.mem_map.mp hx
      obtain ⟨i, hi⟩ := List.mem_iff_getElem?.mp hb
      have hl := (List.getElem?_eq_some_iff.mp hi).1
      have hl2 : i < tb.length := by omega
      obtain ⟨hr, _⟩ := hI.rows i _ (List.getElem?_eq_getElem hl2)
      exact Eqv.self2 (h4 i _ b (List.getElem?_eq_getElem hl2) hi) (by rw [List.length_map, hr]; omega) fun x hx => by
        obtain ⟨z, _, rfl⟩ := List.mem_map.mp hx
        exact .int
    exact Eqv.self2 h1 (Nat.le_of_ble_eq_true rfl) fun x hx => by
      have e : x = .str "table" ∨ x = .int (t : Int) ∨ x = .int g ∨ x = .ref c ∨ x = .int (i : Int) ∨ x = .int (j : Int) := by simpa using hx
      rcases e with rfl | rfl | rfl | rfl | rfl | rfl
      · exact .str
      · exact .int
      · exact .int
      · exact hc
      · exact .int
      · exact .int
end Br

/-! ### minus and len of an instance -/
namespace Br
open PySem PySem.Spec PyProof.Rows L2 PySem.Calls
section
variable {X : Cx} {CX : CXT} {k : Nat} {f C : Addr} {fd : FuncData} {ps : List Str} {sp : Sp} {ds : List Value} {dvs : List V} {E : XK}
def rNegM (C : Addr) (sp : Sp) (dvs : List V) (E : XK) : V → Hp → VK → Prop := fun x H Q => ∃ a dx fs, x = .ref a ∧ H a = some (.ins C dx fs) ∧ sp (x :: dvs) H Q E
theorem un_negM (hm : Meth X.K C "__neg__" f) (F : FnOk X.prog X.w X.K X.mg X.base CX k f fd ps sp) (hr : Room k X.A) (hb : Binds X.K fd ps ds) (hd : Vals dvs ds) (hx : Passes CX X E) :
    UnR X (unaryOp .USub) (rNegM C sp dvs E) := by
  intro pins s σ H x u Q I rx q
  obtain ⟨a, dx, fs, rfl, e, q⟩ := q
  obtain rfl : u = Value.ref a := rx
  obtain ⟨mA, O, _⟩ := ins_get I.hok e
  obtain ⟨od, J, hl⟩ := O.look
  unfold unaryOp
  refine wpAny_holding ?_
  exact wpAny_bind (PySem.W.special_fn I.kIn J hm.at_ (beq_iff_eq.mp hm.fn) (wpAny_mono (run_fn (us := [.ref a]) (vs := [.ref a]) F hr hb hd hx I (.cons rfl .nil) q) (fun _ _ z => wpAny_pure z) fun _ _ z => z))
theorem run_in1 {pins : List (Addr × Obj)} {σ : L2.St} {H : Hp} {s : Shared} {Q : VK} {us : List Value} {vs : List V} (F : FnOk X.prog X.w X.K X.mg X.base CX k f fd ps sp) (hr : Room (k + 1) X.A) (hb : Binds X.K fd ps ds) (hd : Vals dvs ds) (hx : Passes CX X E)
    (I : Inv X pins σ H s) (r : Vals vs us) (h : sp (vs ++ dvs) H Q E) : wpAny (model X.prog X.w) X.A.in1 (call (.ref f) us) (EP X pins σ Q) X.xe s := by
  have r2 : Vals (vs ++ dvs) (us ++ ds) := r.append hd
  have hl : (us ++ ds).length = ps.length := by rw [← r2.length]; exact F.len _ _ _ _ h
  refine wpAny_call (codeAny_mono (F.run X.A.in1 X.stack s H ⟨us, []⟩ (us ++ ds) (vs ++ dvs) Q E hr.in1 I.env0.in1 (hb s us I.kIn hl) r2 h) fun r s' hq => ?_)
  cases r with
  | error e => exact hx pins σ H s e s' I hq
  | ok fl =>
    cases fl with
    | ret u =>
      obtain ⟨v, H', I3, rv, q3⟩ := I.after hq
      exact ⟨v, H', I3, rv, q3⟩
    | next => exact False.elim hq
    | brk => exact False.elim hq
    | cont => exact False.elim hq
theorem pe_fldK {K2 : PySem.W.Frag} {e : Expr} {g : Str} {ta : TE} {pos : Pos} (hK : X.K = K2) (he : PE X e ta) (hb : attributeBase e g X.env (eval e X.env) = eval e X.env) : PE X (.Attribute e g pos) (tFld K2 ta g) := by
  subst hK
  exact pe_fld he hb
def rLenM (C : Addr) (sp : Sp) (dvs : List V) (E : XK) : List V → Hp → VK → Prop := fun xs H Q => ∃ a dx fs, xs = [.ref a] ∧ H a = some (.ins C dx fs) ∧ sp (.ref a :: dvs) H (fun v H' => ∃ n : Nat, v = .int (n : Int) ∧ (n : Int) < 2 ^ 63 ∧ Q v H') E
theorem cr_lenM (hm : Meth X.K C "__len__" f) (F : FnOk X.prog X.w X.K X.mg X.base CX k f fd ps sp) (hr : Room (k + 1) X.A) (hb : Binds X.K fd ps ds) (hd : Vals dvs ds) (hx : Passes CX X E) : CallR X (.builtin "len") (rLenM C sp dvs E) := by
  intro pins s σ H xs us Q I r h
  obtain ⟨a, dx, fs, rfl, e, q⟩ := h
  obtain ⟨u, rfl, rx⟩ := vals1 r
  obtain rfl : u = Value.ref a := rx
  obtain ⟨mA, O, _⟩ := ins_get I.hok e
  obtain ⟨od, J, hl⟩ := O.look
  refine Calls.call_function_entry kind_len plain_len entry_len (args_len1 _) ?_
  unfold Builtin.«len»
  refine wpAny_bind (m := oneArg "len" _) (wpAny_pure ?_)
  refine wpAny_bind (m := callSpecial? (.ref a) (PySem.Str.ofString "__len__")) (PySem.W.special_fn I.kIn J hm.at_ (beq_iff_eq.mp hm.fn) (wpAny_mono (run_in1 (us := [.ref a]) (vs := [.ref a]) F hr hb hd hx I (.cons rfl .nil) q) (fun v s' z => ?_) fun _ _ z => z))
  obtain ⟨x, H', I', rx, n, rfl, hn, q⟩ := z
  obtain ⟨t, rfl⟩ := rx
  refine wpAny_bind (wpAny_holding (wpAny_pure ?_))
  refine wpAny_bind (wpAny_letGo ?_)
  show wpAny _ _ (if ((n : Nat) : Int) < 0 then _ else _) _ _ _
  rw [if_neg (by omega)]
  show wpAny _ _ (if ((n : Nat) : Int) ≥ 2 ^ 63 then _ else _) _ _ _
  rw [if_neg (by omega)]
  exact wpAny_bind (wpAny_mkInt (wpAny_pure ⟨_, rfl, .int (n : Int), H', I'.tok _, ⟨_, rfl⟩, q⟩))
end
end Br

/-! ### steps that take back -/
namespace Br
open PySem PySem.Spec PyProof.Rows L2 Br.F
def IsBack (m : Nat) : Stp → Stp → Prop
  | .add t k fs, s' => s' = .add t (((m : Int) - k) % m) fs
  | .scale t u, s' => ∃ v : Int, s' = .scale t v ∧ 0 ≤ v ∧ v < m ∧ v * u % m = 1
  | .swap a b, s' => s' = .swap a b
  | .tab t g tb a b, s' => s' = .tab t ((m : Int) - g) tb a b
theorem mod_is {m : Nat} {x y : Int} (h0 : 0 ≤ x) (h1 : x < m) (h : (m : Int) ∣ y - x) : y % m = x := by
  have e : y % m = x % m := Int.emod_eq_emod_iff_emod_sub_eq_zero.mpr (Int.emod_eq_zero_of_dvd h)
  rw [e, Int.emod_eq_of_lt h0 h1]
theorem mod_ex (m : Nat) (x : Int) : ∃ q : Int, x % m = x - m * q := ⟨x / m, by rw [Int.emod_def]⟩
theorem getD_set_ne {xs : List Int} {i j : Nat} {z : Int} (h : i ≠ j) : (xs.set i z).getD j 0 = xs.getD j 0 := by
  rw [List.getD_eq_getElem?_getD, List.getD_eq_getElem?_getD, List.getElem?_set_ne h]
theorem getD_set_eq {xs : List Int} {i : Nat} {z : Int} (h : i < xs.length) : (xs.set i z).getD i 0 = z := by
  rw [List.getD_eq_getElem?_getD, List.getElem?_set_self h]; rfl
theorem set_getD {xs : List Int} {i : Nat} : xs.set i (xs.getD i 0) = xs := by
  apply List.ext_getElem?
  intro j
  by_cases h : i = j
  · subst h
    by_cases hl : i < xs.length
    · rw [List.getElem?_set_self hl, List.getD_eq_getElem?_getD, List.getElem?_eq_getElem hl]; rfl
    · rw [List.getElem?_eq_none (by rw [List.length_set]; omega), List.getElem?_eq_none (by omega)]
  · rw [List.getElem?_set_ne h]
theorem prodV_set {mv iv : List Int} {t c i : Nat} {z : Int} : ∀ {fs : List Fac}, (∀ f, f ∈ fs → FacOk c i t f) → prodV (mv.set t z) iv fs = prodV mv iv fs
  | [], _ => rfl
  | f :: fs, h => by
    show facV (mv.set t z) iv f * prodV (mv.set t z) iv fs = facV mv iv f * prodV mv iv fs
    rw [prodV_set fun g hg => h g (List.mem_cons_of_mem _ hg)]
    have e : facV (mv.set t z) iv f = facV mv iv f := by
      cases f with
      | cell j => exact getD_set_ne (h _ List.mem_cons_self).2.symm
      | inp j => rfl
    rw [e]
theorem undo_add {m : Nat} {x k P : Int} (h0 : 0 ≤ x) (h1 : x < m) : ((x + k * P) % m + (((m : Int) - k) % m) * P) % m = x := by
  refine mod_is h0 h1 ?_
  obtain ⟨q1, e1⟩ := mod_ex m (x + k * P)
  obtain ⟨q2, e2⟩ := mod_ex m ((m : Int) - k)
  rw [e1, e2]
  exact ⟨P - q1 - q2 * P, by grind⟩
theorem undo_tab {m : Nat} {x g V : Int} (h0 : 0 ≤ x) (h1 : x < m) : ((x + g * V) % m + ((m : Int) - g) * V) % m = x := by
  refine mod_is h0 h1 ?_
  obtain ⟨q1, e1⟩ := mod_ex m (x + g * V)
  rw [e1]
  exact ⟨V - q1, by grind⟩
theorem undo_scale {m : Nat} {x u v : Int} (h0 : 0 ≤ x) (h1 : x < m) (h : v * u % m = 1) : (x * u % m) * v % m = x := by
  refine mod_is h0 h1 ?_
  obtain ⟨q1, e1⟩ := mod_ex m (x * u)
  obtain ⟨q2, e2⟩ := mod_ex m (v * u)
  rw [h] at e2
  rw [e1]
  exact ⟨x * q2 - q1 * v, by grind⟩
theorem stepF_back {m c i : Nat} {iv mv : List Int} {s s' : Stp} (hm : 1 ≤ m) (hv : Mem m c mv) (ok : StpOk m c i s) (h : IsBack m s s') : stepF m iv (stepF m iv mv s) s' = mv := by
  cases s with
  | add t k fs =>
    obtain rfl := h
    obtain ⟨o1, o2, o3, o4, o5⟩ := ok
    obtain ⟨z, gz, ez, z0, z1⟩ := hv.get o1
    have hl : t < mv.length := by rw [hv.len]; exact o1
    show (mv.set t ((mv.getD t 0 + k * prodV mv iv fs) % m)).set t (((mv.set t ((mv.getD t 0 + k * prodV mv iv fs) % m)).getD t 0 + (((m : Int) - k) % m) * prodV (mv.set t ((mv.getD t 0 + k * prodV mv iv fs) % m)) iv fs) % m) = mv
    rw [getD_set_eq hl, prodV_set o5, List.set_set, ez, undo_add z0 z1, ← ez, set_getD]
  | scale t u =>
    obtain ⟨v, rfl, v0, v1, hvu⟩ := h
    obtain ⟨o1, _⟩ := ok
    obtain ⟨z, gz, ez, z0, z1⟩ := hv.get o1
    have hl : t < mv.length := by rw [hv.len]; exact o1
    show (mv.set t (mv.getD t 0 * u % m)).set t ((mv.set t (mv.getD t 0 * u % m)).getD t 0 * v % m) = mv
    rw [getD_set_eq hl, List.set_set, ez, undo_scale z0 z1 hvu, ← ez, set_getD]
  | swap a b =>
    obtain rfl := h
    obtain ⟨o1, o2, o3⟩ := ok
    have ha : a < mv.length := by rw [hv.len]; exact o1
    have hb : b < mv.length := by rw [hv.len]; exact o2
    show (((mv.set a (mv.getD b 0)).set b (mv.getD a 0)).set a (((mv.set a (mv.getD b 0)).set b (mv.getD a 0)).getD b 0)).set b (((mv.set a (mv.getD b 0)).set b (mv.getD a 0)).getD a 0) = mv
    rw [getD_set_eq (by rw [List.length_set]; exact hb), getD_set_ne o3.symm, getD_set_eq ha, List.set_comm _ _ o3, List.set_set, List.set_comm _ _ o3.symm, List.set_set, set_getD, set_getD]
  | tab t g tb a b =>
    obtain rfl := h
    obtain ⟨o1, o2, o3, o4, o5, _⟩ := ok
    obtain ⟨z, gz, ez, z0, z1⟩ := hv.get o1
    have hl : t < mv.length := by rw [hv.len]; exact o1
    generalize hV : ItpV m tb (mv.getD a 0) (mv.getD b 0) = W
    show (mv.set t ((mv.getD t 0 + g * ItpV m tb (mv.getD a 0) (mv.getD b 0)) % m)).set t (((mv.set t ((mv.getD t 0 + g * ItpV m tb (mv.getD a 0) (mv.getD b 0)) % m)).getD t 0 + ((m : Int) - g) * ItpV m tb ((mv.set t ((mv.getD t 0 + g * ItpV m tb (mv.getD a 0) (mv.getD b 0)) % m)).getD a 0) ((mv.set t ((mv.getD t 0 + g * ItpV m tb (mv.getD a 0) (mv.getD b 0)) % m)).getD b 0)) % m) = mv
    rw [getD_set_eq hl, getD_set_ne o4, getD_set_ne o5, hV, List.set_set, ez, undo_tab z0 z1, ← ez, set_getD]
theorem unit_uniq {m : Nat} {u v w : Int} (h1 : v * u % m = 1) (h2 : w * u % m = 1) (v0 : 0 ≤ v) (v1 : v < m) (w0 : 0 ≤ w) (w1 : w < m) : v = w := by
  obtain ⟨q1, e1⟩ := mod_ex m (v * u)
  obtain ⟨q2, e2⟩ := mod_ex m (w * u)
  rw [h1] at e1
  rw [h2] at e2
  have e : v % m = w := mod_is w0 w1 ⟨w * q1 - v * q2, by grind⟩
  rw [← e, Int.emod_eq_of_lt v0 v1]
theorem IsBack.uniq {m : Nat} {s a b : Stp} (h1 : IsBack m s a) (h2 : IsBack m s b) : a = b := by
  cases s with
  | add => exact h1.trans h2.symm
  | swap => exact h1.trans h2.symm
  | tab => exact h1.trans h2.symm
  | scale t u =>
    obtain ⟨v, rfl, v0, v1, hv⟩ := h1
    obtain ⟨w, rfl, w0, w1, hw⟩ := h2
    rw [unit_uniq hv hw v0 v1 w0 w1]
theorem IsBack.symm {m c i : Nat} {s s' : Stp} (ok : StpOk m c i s) (h : IsBack m s s') : IsBack m s' s := by
  cases s with
  | add t k fs =>
    obtain rfl := h
    obtain ⟨o1, o2, o3, _⟩ := ok
    show Stp.add t k fs = .add t (((m : Int) - ((m : Int) - k) % m) % m) fs
    have e : ((m : Int) - ((m : Int) - k) % m) % m = k := by
      refine mod_is o2 o3 ?_
      obtain ⟨q, e⟩ := mod_ex m ((m : Int) - k)
      rw [e]
      exact ⟨q, by grind⟩
    rw [e]
  | scale t u =>
    obtain ⟨v, rfl, v0, v1, hv⟩ := h
    exact ⟨u, rfl, ok.2.1, ok.2.2.1, by rw [Int.mul_comm]; exact hv⟩
  | swap a b =>
    obtain rfl := h
    rfl
  | tab t g tb a b =>
    obtain rfl := h
    show Stp.tab t g tb a b = .tab t ((m : Int) - ((m : Int) - g)) tb a b
    rw [Int.sub_sub_self]
theorem IsBack.ok {m c i : Nat} {s s' : Stp} (hm : 2 ≤ m) (ok : StpOk m c i s) (h : IsBack m s s') : StpOk m c i s' := by
  cases s with
  | add t k fs =>
    obtain rfl := h
    obtain ⟨o1, o2, o3, o4, o5⟩ := ok
    exact ⟨o1, Int.emod_nonneg _ (by omega), Int.emod_lt_of_pos _ (by omega), o4, o5⟩
  | scale t u =>
    obtain ⟨v, rfl, v0, v1, hv⟩ := h
    refine ⟨ok.1, v0, v1, ?_⟩
    have h1 := Int.gcd_dvd_left (a := v) (b := (m : Int))
    have h2 := Int.gcd_dvd_right (a := v) (b := (m : Int))
    have h3 : ((Int.gcd v m : Nat) : Int) ∣ ((1 : Nat) : Int) := by
      obtain ⟨q, e⟩ := mod_ex m (v * u)
      rw [hv] at e
      obtain ⟨x, hx⟩ := h1
      obtain ⟨y, hy⟩ := h2
      generalize ((Int.gcd v m : Nat) : Int) = G at hx hy
      refine ⟨x * u - y * q, ?_⟩
      rw [Int.mul_sub, ← Int.mul_assoc, ← Int.mul_assoc, ← hx, ← hy]
      exact e
    exact Nat.dvd_one.mp (Int.ofNat_dvd.mp h3)
  | swap a b =>
    obtain rfl := h
    exact ok
  | tab t g tb a b =>
    obtain rfl := h
    obtain ⟨o1, o2, o3, o4, o5, o6, o7, o8, o9, o10⟩ := ok
    exact ⟨o1, o2, o3, o4, o5, o6, by omega, o8, o9, o10⟩
inductive BackOf (m : Nat) : List Stp → List Stp → Prop
  | nil : BackOf m [] []
  | cons {s s' : Stp} {ss ss' : List Stp} : IsBack m s s' → BackOf m ss ss' → BackOf m (s :: ss) (ss' ++ [s'])
theorem BackOf.snoc {m : Nat} {x y : Stp} {xs ys : List Stp} (h : BackOf m xs ys) (hb : IsBack m x y) : BackOf m (xs ++ [x]) (y :: ys) := by
  induction h with
  | nil => exact .cons (ss' := []) hb .nil
  | cons h1 _ ih => exact .cons (ss' := y :: _) h1 ih
theorem BackOf.len {m : Nat} {xs ys : List Stp} (h : BackOf m xs ys) : ys.length = xs.length := by
  induction h with
  | nil => rfl
  | cons h1 _ ih => rw [List.length_append, List.length_cons, ih]; rfl
theorem BackOf.symm {m c i : Nat} {xs ys : List Stp} (h : BackOf m xs ys) (ok : ∀ s, s ∈ xs → StpOk m c i s) : BackOf m ys xs := by
  induction h with
  | nil => exact .nil
  | cons h1 _ ih => exact (ih fun s hs => ok s (List.mem_cons_of_mem _ hs)).snoc (h1.symm (ok _ List.mem_cons_self))
theorem BackOf.oks {m c i : Nat} {xs ys : List Stp} (hm : 2 ≤ m) (h : BackOf m xs ys) (ok : ∀ s, s ∈ xs → StpOk m c i s) : ∀ s, s ∈ ys → StpOk m c i s := by
  induction h with
  | nil => exact ok
  | cons h1 _ ih =>
    intro s hs
    rcases List.mem_append.mp hs with h | h
    · exact ih (fun s hs => ok s (List.mem_cons_of_mem _ hs)) s h
    · rw [List.mem_singleton.mp h]
      exact h1.ok hm (ok _ List.mem_cons_self)
theorem BackOf.uniq {m : Nat} {xs ys : List Stp} (h : BackOf m xs ys) : ∀ {zs : List Stp}, BackOf m xs zs → ys = zs := by
  induction h with
  | nil => intro zs h; cases h; rfl
  | cons h1 _ ih =>
    intro zs h
    cases h with
    | cons h2 h3 => rw [ih h3, h1.uniq h2]
theorem runF_app {m : Nat} {iv : List Int} {xs ys : List Stp} {mv : List Int} : runF m iv (xs ++ ys) mv = runF m iv ys (runF m iv xs mv) := by
  unfold runF
  rw [List.foldl_append]
theorem runF_back {m c i : Nat} {iv : List Int} {xs ys : List Stp} (hm : 1 ≤ m) (h : BackOf m xs ys) : ∀ {mv : List Int}, Mem m c mv → (∀ s, s ∈ xs → StpOk m c i s) → runF m iv ys (runF m iv xs mv) = mv := by
  induction h with
  | nil => intro mv _ _; rfl
  | @cons s s' ss ss' h1 _ ih =>
    intro mv hv ok
    have oks := ok s List.mem_cons_self
    show runF m iv (ss' ++ [s']) (runF m iv ss (stepF m iv mv s)) = mv
    rw [runF_snoc, ih (stepF_mem hm hv oks) fun s hs => ok s (List.mem_cons_of_mem _ hs), stepF_back hm hv oks h1]
/-- two that are the same step -/
theorem FacAt.eqv2 {K : PySem.W.Frag} {H : Hp} {a b : Addr} {f : Fac} (h : FacAt H a f) (h' : FacAt H b f) : Eqv K H 2 (.ref a) (.ref b) := by
  cases f with
  | cell i =>
    refine Eqv.tup h h' rfl (Nat.le_of_ble_eq_true rfl) fun j x y e1 e2 => ?_
    rw [e1] at e2
    cases e2
    have hx := List.mem_of_getElem? e1
    have e : x = .str "cell" ∨ x = .int (i : Int) := by simpa using hx
    rcases e with rfl | rfl
    · exact .str
    · exact .int
  | inp i =>
    refine Eqv.tup h h' rfl (Nat.le_of_ble_eq_true rfl) fun j x y e1 e2 => ?_
    rw [e1] at e2
    cases e2
    have hx := List.mem_of_getElem? e1
    have e : x = .str "input" ∨ x = .int (i : Int) := by simpa using hx
    rcases e with rfl | rfl
    · exact .str
    · exact .int
theorem StpAt.eqv2 {K : PySem.W.Frag} {H : Hp} {a b : Addr} {m cells inputs : Nat} {s : Stp} (ok : StpOk m cells inputs s) (h : StpAt H a s) (h' : StpAt H b s) : Eqv K H 4 (.ref a) (.ref b) := by
  cases s with
  | add t c fs =>
    obtain ⟨f, as, h1, h2, h3, h4⟩ := h
    obtain ⟨f', as', h1', h2', h3', h4'⟩ := h'
    have hf : Eqv K H 3 (.ref f) (.ref f') := by
      refine Eqv.tup h2 h2' (by rw [List.length_map, List.length_map]; omega) (by rw [List.length_map, h3']; have := ok.2.2.2.1; omega) fun j x y e1 e2 => ?_
      obtain ⟨p, hp, rfl⟩ := map_getR e1
      obtain ⟨p', hp', rfl⟩ := map_getR e2
      have hl := (List.getElem?_eq_some_iff.mp hp).1
      have g := List.getElem?_eq_getElem (l := fs) (i := j) (by omega)
      exact (h4 j _ p g hp).eqv2 (h4' j _ p' g hp')
    refine Eqv.tup h1 h1' rfl (Nat.le_of_ble_eq_true rfl) fun j x y e1 e2 => ?_
    match j, e1, e2 with
    | 0, e1, e2 => cases e1; cases e2; exact .str
    | 1, e1, e2 => cases e1; cases e2; exact .int
    | 2, e1, e2 => cases e1; cases e2; exact .int
    | 3, e1, e2 => cases e1; cases e2; exact hf
    | j + 4, e1, _ => simp at e1
  | scale t u =>
    refine Eqv.tup h h' rfl (Nat.le_of_ble_eq_true rfl) fun j x y e1 e2 => ?_
    match j, e1, e2 with
    | 0, e1, e2 => cases e1; cases e2; exact .str
    | 1, e1, e2 => cases e1; cases e2; exact .int
    | 2, e1, e2 => cases e1; cases e2; exact .int
    | j + 3, e1, _ => simp at e1
  | swap i k =>
    refine Eqv.tup h h' rfl (Nat.le_of_ble_eq_true rfl) fun j x y e1 e2 => ?_
    match j, e1, e2 with
    | 0, e1, e2 => cases e1; cases e2; exact .str
    | 1, e1, e2 => cases e1; cases e2; exact .int
    | 2, e1, e2 => cases e1; cases e2; exact .int
    | j + 3, e1, _ => simp at e1
  | tab t g tb i k =>
    obtain ⟨c, h1, as, h2, h3, h4⟩ := h
    obtain ⟨c', h1', as', h2', h3', h4'⟩ := h'
    have hlen : tb.length ≤ 1000 := ok.2.2.2.2.2.2.2.2.1
    have hI : IsTab m tb := ok.2.2.2.2.2.2.2.1
    have hc : Eqv K H 3 (.ref c) (.ref c') := by
      refine Eqv.tup h2 h2' (by rw [List.length_map, List.length_map]; omega) (by rw [List.length_map, h3']; omega) fun j x y e1 e2 => ?_
      obtain ⟨p, hp, rfl⟩ := map_getR e1
      obtain ⟨p', hp', rfl⟩ := map_getR e2
      have hl := (List.getElem?_eq_some_iff.mp hp).1
      have hl2 : j < tb.length := by omega
      have gr := List.getElem?_eq_getElem hl2
      obtain ⟨hr, _⟩ := hI.rows j _ gr
      refine Eqv.tup (h4 j _ p gr hp) (h4' j _ p' gr hp') rfl (by rw [List.length_map, hr]; omega) fun j2 x y e1 e2 => ?_
      rw [e1] at e2
      cases e2
      obtain ⟨z, _, rfl⟩ := map_get e1
      exact .int
    refine Eqv.tup h1 h1' rfl (Nat.le_of_ble_eq_true rfl) fun j x y e1 e2 => ?_
    match j, e1, e2 with
    | 0, e1, e2 => cases e1; cases e2; exact .str
    | 1, e1, e2 => cases e1; cases e2; exact .int
    | 2, e1, e2 => cases e1; cases e2; exact .int
    | 3, e1, e2 => cases e1; cases e2; exact hc
    | 4, e1, e2 => cases e1; cases e2; exact .int
    | 5, e1, e2 => cases e1; cases e2; exact .int
    | j + 6, e1, _ => simp at e1
end Br

/-! ### max(xs, default=d) -/
namespace Br
open PySem PySem.Spec PyProof.Rows L2
theorem max_rawD {prog : Program} {w : World} {A : Around} {E : Value → Shared → Prop} {s : Shared} {l : Addr} {its : List Value} {ns : List Int} {d : Value} {Q : Value → Shared → Prop} (hh : A.handled = none) (hl : s.heap.IsList l its.toArray) (hi : IntsAre its ns)
    (h0 : ns = [] → ∀ h' tk, (∀ b o, s.heap.get? b = some o → h'.get? b = some o) → Q d { s with heap := h', toks := tk })
    (h : ∀ h' tk M t', (∀ b o, s.heap.get? b = some o → h'.get? b = some o) → M ∈ ns → (∀ a, a ∈ ns → a ≤ M) → Q (.int M t') { s with heap := h', toks := tk }) : wpAny (model prog w) A (call (.builtin "max") [.ref l] [(Str.ofString "default", d)]) Q E s := by
  obtain ⟨xs, e⟩ := hi.allInts.items
  have hn : numsOf (intItems xs).toList = ns := by rw [← e]; exact hi.numsOf
  rw [nums_intItems] at hn
  subst hn
  rw [e] at hl
  refine call_max_walkD (iter_intList hl fun s₂ e2 st hfp hlI => ?_)
  have keep : ∀ {s' : Shared}, Moved [s.heap.objs.size] (fun a b => b = a) s₂ s' → (∀ b o, s.heap.get? b = some o → s'.heap.get? b = some o) ∧ s' = { s with heap := s'.heap, toks := s'.toks } := by
    intro s' m
    subst e2
    refine ⟨fun b o eb => m.heap b o (fun hb => ?_) (Heap.get?_push_of_some _ eb), ?_⟩
    · have : b = s.heap.objs.size := by simpa using hb
      exact absurd (Heap.lt_size eb) (by rw [this]; exact Nat.lt_irrefl _)
    · have h1 := m.gens
      have h2 := m.drawn
      have h3 := m.os
      cases s'
      cases s
      simp at h1 h2 h3 ⊢
      exact ⟨h1, h2, h3⟩
  refine ⟨_, _, _, _, _, _, _, s.heap, fun i j => decide (numAt xs i > numAt xs j), rfl, (Walks.list (A := A.in1) hh _ l hlI (intItems xs)).toS, st, hfp, ?_, ?_, ?_, ?_⟩
  · intro b o eb hb
    have : b = s.heap.objs.size := by simpa using hb
    exact absurd (Heap.lt_size eb) (by rw [this]; exact Nat.lt_irrefl _)
  · intro b o eb
    subst e2
    exact Heap.get?_push_of_some _ eb
  · intro hz s' m
    obtain ⟨k1, k2⟩ := keep m
    rw [k2]
    refine h0 ?_ _ _ k1
    have : xs.size = 0 := by simpa [intItems] using hz
    have : xs = #[] := Array.eq_empty_of_size_eq_zero this
    rw [this]
    rfl
  · intro hz
    have hsz : 0 < xs.size := by simpa [intItems] using hz
    refine ⟨fun i j vi vj s' Q' E' _ h1 h2 h3 => CmpOf.ints_gt (numAt xs) (fun _ _ => intItems_at) i j vi vj s' Q' E' h1 h2 h3, fun v s' hP m => ?_⟩
    obtain ⟨k1, k2⟩ := keep m
    rw [k2]
    have hP : (intItems xs)[argBest (fun i j => decide (numAt xs i > numAt xs j)) (xs.size - 1)]? = some v := by simpa [intItems] using hP
    obtain ⟨t, rfl⟩ := intItems_at hP
    obtain ⟨h1, h2⟩ := argBest_gt (numAt xs) (xs.size - 1)
    refine h _ _ _ t k1 ?_ fun a ha => ?_
    · rw [numAt_eq]; exact PySem.getD_mem (by rw [List.length_map, Array.length_toList]; omega)
    · obtain ⟨j, hj, rfl⟩ := mem_getD ha
      rw [List.length_map, Array.length_toList] at hj
      rw [← numAt_eq]; exact h2 j (by omega)
/-- max(xs, default=z): z the default -/
def rMaxDf (K : PySem.W.Frag) : List V → List V → Hp → VK → Prop := fun vs zs H Q => ∃ (a : Addr) (ns : List Int) (d : Int), vs = [V.ref a] ∧ zs = [.int d] ∧ SqL K H a (ns.map V.int) ∧ (ns = [] → Q (.int d) H) ∧ ∀ m, m ∈ ns → (∀ y, y ∈ ns → y ≤ m) → Q (.int m) H
theorem cr_maxDf {X : Cx} (hc : X.calm = true) : CallRK X (.builtin "max") [Str.ofString "default"] (rMaxDf X.K) := by
  intro pins s σ H xs zs us ws Q I r1 r2 h
  obtain ⟨a, ns, d, rfl, rfl, hs, q0, q⟩ := h
  obtain ⟨its, rv, hl, _⟩ := I.list hs
  rw [Vals.ref1 r1]
  cases r2 with
  | cons rz rr =>
    cases rr
    exact max_rawD (I.ok.hd hc) hl.isList rv.ints (fun e h' tk hk => ⟨.int d, H, I.kept hk, rz, q0 e⟩) fun h' tk m t' hk h1 h2 => ⟨.int _, H, I.kept hk, ⟨_, rfl⟩, q m h1 h2⟩
theorem x_maxDf {K : PySem.W.Frag} {σ : L2.St} {H : Hp} {Q : VK} {t tk : TA} (h : t σ H fun vs H1 => tk σ H1 fun zs H2 => rMaxDf K vs zs H2 Q) : tCKw (rMaxDf K) t tk σ H Q := h
/-- what is walked within a comprehension, the written part named -/
theorem pi_tupK {X : Cx} {tg : Expr} {K2 : PySem.W.Frag} {l : Expr} {tl : TE} (hK : X.K = K2) (hl : PE X l tl) : PI X tg l (iTup K2 tl) := by
  subst hK
  exact pi_tup hl
theorem pi_listK {X : Cx} {tg : Expr} {K2 : PySem.W.Frag} {l : Expr} {tl : TE} (hK : X.K = K2) (hl : PE X l tl) : PI X tg l (iList K2 tl) := by
  subst hK
  exact pi_list hl
theorem x_maxDfP {K : PySem.W.Frag} {H : Hp} {Q : VK} {a : Addr} {ns : List Int} {d : Int} (hs : SqL K H a (ns.map V.int)) (h : ∀ m, (ns = [] ∧ m = d) ∨ (m ∈ ns ∧ ∀ y, y ∈ ns → y ≤ m) → Q (.int m) H) : rMaxDf K [.ref a] [.int d] H Q :=
  ⟨a, ns, d, rfl, rfl, hs, fun e => h d (.inl ⟨e, rfl⟩), fun m h1 h2 => h m (.inr ⟨h1, h2⟩)⟩
end Br

/-! ### data of any kind in the heap, apart from one list -/
namespace Br
open PySem PySem.Spec PyProof.Rows L2
mutual
inductive DAt (d : Addr) (H : Hp) : V → PyData → Prop
  | non : DAt d H .non .none
  | bl (b : Bool) : DAt d H (.bl b) (.bool b)
  | int (i : Int) : DAt d H (.int i) (.int i)
  | str (x : Str) : DAt d H (.str x) (.str x)
  | lst {a : Addr} {xs : List V} {ds : List PyData} (hd : a ≠ d) (h : H a = some (.lst xs)) (hs : DAts d H xs ds) : DAt d H (.ref a) (.list ds)
  | tup {a : Addr} {xs : List V} {ds : List PyData} (h : H a = some (.tup xs)) (hs : DAts d H xs ds) : DAt d H (.ref a) (.tuple ds)
inductive DAts (d : Addr) (H : Hp) : List V → List PyData → Prop
  | nil : DAts d H [] []
  | cons {v : V} {vs : List V} {e : PyData} {es : List PyData} (h : DAt d H v e) (hs : DAts d H vs es) : DAts d H (v :: vs) (e :: es)
end
section
variable {d : Addr} {H H' : Hp}
theorem DAts.len : ∀ {xs : List V} {ds : List PyData}, DAts d H xs ds → xs.length = ds.length
  | [], _, h => by cases h; rfl
  | _ :: xs, _, h => by
    cases h with
    | cons h hs => exact congrArg (· + 1) hs.len
theorem DAts.get : ∀ {xs : List V} {ds : List PyData}, DAts d H xs ds → ∀ {i : Nat} {x : V}, xs[i]? = some x → ∃ e, ds[i]? = some e ∧ DAt d H x e
  | [], _, _, i, x, e => by simp at e
  | v :: xs, _, h, i, x, e => by
    cases h with
    | cons h hs =>
      cases i with
      | zero => cases e; exact ⟨_, rfl, h⟩
      | succ i => exact hs.get (i := i) (by simpa using e)
theorem DAts.of : ∀ {xs : List V} {ds : List PyData}, xs.length = ds.length → (∀ (i : Nat) x e, xs[i]? = some x → ds[i]? = some e → DAt d H x e) → DAts d H xs ds
  | [], [], _, _ => .nil
  | v :: xs, e :: ds, hl, h => .cons (h 0 v e rfl rfl) (DAts.of (by simpa using hl) fun i x f h1 h2 => h (i + 1) x f (by simpa using h1) (by simpa using h2))
  | [], _ :: _, hl, _ => by simp at hl
  | _ :: _, [], hl, _ => by simp at hl
theorem DAts.snoc : ∀ {xs : List V} {ds : List PyData} {v : V} {e : PyData}, DAts d H xs ds → DAt d H v e → DAts d H (xs ++ [v]) (ds ++ [e])
  | [], _, v, e, h, h1 => by cases h; exact .cons h1 .nil
  | _ :: xs, _, v, e, h, h1 => by
    cases h with
    | cons h hs => exact .cons h (hs.snoc h1)
theorem DAts.app : ∀ {xs ys : List V} {ds es : List PyData}, DAts d H xs ds → DAts d H ys es → DAts d H (xs ++ ys) (ds ++ es)
  | [], _, _, _, h, h1 => by cases h; exact h1
  | _ :: xs, _, _, _, h, h1 => by
    cases h with
    | cons h hs => exact .cons h (hs.app h1)
mutual
theorem DAt.keep (hd : ∃ ys, H d = some (.lst ys)) (k : Keep d H H') : ∀ (e : PyData) {v : V}, DAt d H v e → DAt d H' v e
  | .none, _, h => by cases h; exact .non
  | .bool b, _, h => by cases h; exact .bl b
  | .int i, _, h => by cases h; exact .int i
  | .str x, _, h => by cases h; exact .str x
  | .list ds, _, h => by
    cases h with
    | lst hn h hs => exact .lst hn (k _ _ h hn) (DAts.keep hd k ds hs)
  | .tuple ds, _, h => by
    obtain ⟨ys, hd'⟩ := id hd
    cases h with
    | tup h hs => exact .tup (k _ _ h (ne_of h hd' (by intro z; cases z))) (DAts.keep hd k ds hs)
  | .dict _, _, h => by cases h
theorem DAts.keep (hd : ∃ ys, H d = some (.lst ys)) (k : Keep d H H') : ∀ (es : List PyData) {vs : List V}, DAts d H vs es → DAts d H' vs es
  | [], _, h => by cases h; exact .nil
  | e :: es, _, h => by
    cases h with
    | cons h hs => exact .cons (DAt.keep hd k e h) (DAts.keep hd k es hs)
end
mutual
theorem DAt.same (k : Same H H') : ∀ (e : PyData) {v : V}, DAt d H v e → DAt d H' v e
  | .none, _, h => by cases h; exact .non
  | .bool b, _, h => by cases h; exact .bl b
  | .int i, _, h => by cases h; exact .int i
  | .str x, _, h => by cases h; exact .str x
  | .list ds, _, h => by
    cases h with
    | lst hn h hs => exact .lst hn (k _ _ h) (DAts.same k ds hs)
  | .tuple ds, _, h => by
    cases h with
    | tup h hs => exact .tup (k _ _ h) (DAts.same k ds hs)
  | .dict _, _, h => by cases h
theorem DAts.same (k : Same H H') : ∀ (es : List PyData) {vs : List V}, DAts d H vs es → DAts d H' vs es
  | [], _, h => by cases h; exact .nil
  | e :: es, _, h => by
    cases h with
    | cons h hs => exact .cons (DAt.same k e h) (DAts.same k es hs)
end
theorem DAts.ints : ∀ {ns : List Int}, DAts d H (ns.map V.int) (ns.map PyData.int)
  | [] => .nil
  | i :: ns => .cons (.int i) DAts.ints
theorem DAts.bls : ∀ {bs : List Bool}, DAts d H (bs.map V.bl) (bs.map PyData.bool)
  | [] => .nil
  | b :: bs => .cons (.bl b) DAts.bls
/-- is it an integer from 0 to b - 1 -/
def isBD (b : Int) : PyData → Bool
  | .int i => decide (0 ≤ i) && decide (i < b)
  | _ => false
theorem isBD_iff {b : Int} {e : PyData} : isBD b e = true ↔ ∃ i, e = .int i ∧ 0 ≤ i ∧ i < b := by
  cases e with
  | int i =>
    show (decide (0 ≤ i) && decide (i < b)) = true ↔ _
    rw [Bool.and_eq_true, decide_eq_true_iff, decide_eq_true_iff]
    exact ⟨fun h => ⟨i, rfl, h⟩, fun ⟨j, e, h⟩ => by cases e; exact h⟩
  | _ => exact ⟨fun h => (by cases h), fun h => (by obtain ⟨_, h, _⟩ := h; cases h)⟩
def isBlD : PyData → Bool
  | .bool _ => true
  | _ => false
end
end Br

/-! ### gates as data, and what they do -/
namespace Br
open PySem PySem.Spec PyProof.Rows L2
abbrev Gt := Nat × List Nat
def perfG (bs : List Bool) (g : Gt) : List Bool := if g.2.all (fun c => bs.getD c false) then bs.set g.1 (!bs.getD g.1 false) else bs
def perfF (gs : List Gt) (bs : List Bool) : List Bool := gs.foldl perfG bs
structure GtOk (n : Nat) (g : Gt) : Prop where
  t : g.1 < n
  c : ∀ x, x ∈ g.2 → x < n
  ne : g.1 ∉ g.2
  up : g.2.Pairwise (· < ·)
theorem GtOk.mono {n m : Nat} {g : Gt} (h : GtOk n g) (l : n ≤ m) : GtOk m g := ⟨Nat.lt_of_lt_of_le h.t l, fun x hx => Nat.lt_of_lt_of_le (h.c x hx) l, h.ne, h.up⟩
theorem perfG_len {bs : List Bool} {g : Gt} : (perfG bs g).length = bs.length := by
  unfold perfG
  split
  · rw [List.length_set]
  · rfl
theorem perfF_len : ∀ {gs : List Gt} {bs : List Bool}, (perfF gs bs).length = bs.length
  | [], _ => rfl
  | g :: gs, bs => (perfF_len (gs := gs) (bs := perfG bs g)).trans perfG_len
theorem perfF_snoc {gs : List Gt} {g : Gt} {bs : List Bool} : perfF (gs ++ [g]) bs = perfG (perfF gs bs) g := by
  unfold perfF
  rw [List.foldl_append]
  rfl
theorem getD_setB {bs : List Bool} {i j : Nat} {b : Bool} (h : i ≠ j) : (bs.set i b).getD j false = bs.getD j false := by
  rw [List.getD_eq_getElem?_getD, List.getD_eq_getElem?_getD, List.getElem?_set_ne h]
theorem perfG_twice {n : Nat} {bs : List Bool} {g : Gt} (ok : GtOk n g) (hn : n ≤ bs.length) : perfG (perfG bs g) g = bs := by
  have ht := Nat.lt_of_lt_of_le ok.t hn
  by_cases h : g.2.all (fun c => bs.getD c false) = true
  · have e : perfG bs g = bs.set g.1 (!bs.getD g.1 false) := by unfold perfG; rw [if_pos h]
    rw [e]
    unfold perfG
    rw [if_pos]
    · apply List.ext_getElem?
      intro j
      by_cases hj : g.1 = j
      · subst hj
        have h1 : g.1 < (bs.set g.1 (!bs.getD g.1 false)).length := by rw [List.length_set]; exact ht
        rw [List.getElem?_set_self h1, List.getD_eq_getElem?_getD (l := bs.set _ _), List.getElem?_set_self ht, List.getD_eq_getElem?_getD, List.getElem?_eq_getElem ht]
        simp
      · rw [List.getElem?_set_ne hj, List.getElem?_set_ne hj]
    · rw [List.all_eq_true] at h ⊢
      intro c hc
      rw [getD_setB (fun e => ok.ne (by rw [e]; exact hc))]
      exact h c hc
  · have e : perfG bs g = bs := by unfold perfG; rw [if_neg h]
    rw [e, e]
theorem perfF_rev {n : Nat} : ∀ {gs : List Gt} {bs : List Bool}, (∀ g, g ∈ gs → GtOk n g) → n ≤ bs.length → perfF gs.reverse (perfF gs bs) = bs
  | [], _, _, _ => rfl
  | g :: gs, bs, ok, hn => by
    rw [List.reverse_cons, perfF_snoc]
    show perfG (perfF gs.reverse (perfF gs (perfG bs g))) g = bs
    rw [perfF_rev (fun x hx => ok x (List.mem_cons_of_mem _ hx)) (by rw [perfG_len]; exact hn)]
    exact perfG_twice (ok g List.mem_cons_self) hn
def cInts (cs : List Nat) : List V := cs.map fun (c : Nat) => V.int (c : Int)
def GtAt (H : Hp) (a : Addr) (g : Gt) : Prop := ∃ c : Addr, H a = some (.tup [.int (g.1 : Int), .ref c]) ∧ H c = some (.tup (cInts g.2))
def gtD (g : Gt) : PyData := .tuple [.int (g.1 : Int), .tuple (g.2.map fun (c : Nat) => PyData.int (c : Int))]
theorem GtAt.tups {H H' : Hp} {a : Addr} {g : Gt} (h : GtAt H a g) (k : ∀ b xs, H b = some (.tup xs) → H' b = some (.tup xs)) : GtAt H' a g := by
  obtain ⟨c, h1, h2⟩ := h
  exact ⟨c, k _ _ h1, k _ _ h2⟩
theorem cInts_at {d : Addr} {H : Hp} : ∀ {cs : List Nat}, DAts d H (cInts cs) (cs.map fun (c : Nat) => PyData.int (c : Int))
  | [] => .nil
  | c :: cs => .cons (.int _) cInts_at
theorem GtAt.dat {d a : Addr} {H : Hp} {g : Gt} (h : GtAt H a g) : DAt d H (.ref a) (gtD g) := by
  obtain ⟨c, h1, h2⟩ := h
  exact .tup h1 (.cons (.int _) (.cons (.tup h2 cInts_at) .nil))
/-- rising bits below 120, behind the last one -/
def risF : Int → List PyData → Bool
  | _, [] => true
  | l, .int i :: es => (decide (0 ≤ i) && decide (i < 120)) && (decide (l < i) && risF i es)
  | _, _ :: _ => false
def risD : PyData → Bool
  | .tuple es => risF (-1) es
  | _ => false
def hasD (e : PyData) (es : List PyData) : Bool := es.any fun x => match x, e with | .int i, .int j => decide (i = j) | _, _ => false
def gateD : PyData → Bool
  | .tuple [t, .tuple es] => isBD 120 t && (risF (-1) es && !hasD t es)
  | _ => false
def gatesD : PyData → Bool
  | .list es => decide (es.length ≤ 60000) && es.all gateD
  | _ => false
theorem risF_ok : ∀ {cs : List Nat} {l : Int}, cs.Pairwise (· < ·) → (∀ c, c ∈ cs → c < 120 ∧ l < (c : Int)) → risF l (cs.map fun (c : Nat) => PyData.int (c : Int)) = true
  | [], _, _, _ => rfl
  | c :: cs, l, hp, h => by
    obtain ⟨h1, h2⟩ := h c List.mem_cons_self
    show ((decide (0 ≤ (c : Int)) && decide ((c : Int) < 120)) && (decide (l < (c : Int)) && _)) = true
    rw [decide_eq_true (by omega), decide_eq_true (by omega), decide_eq_true h2]
    rw [List.pairwise_cons] at hp
    exact risF_ok hp.2 fun x hx => ⟨(h x (List.mem_cons_of_mem _ hx)).1, by have := hp.1 x hx; omega⟩
theorem gateD_ok {g : Gt} (ok : GtOk 120 g) : gateD (gtD g) = true := by
  show (isBD 120 (.int (g.1 : Int)) && (risF (-1) (g.2.map fun (c : Nat) => PyData.int (c : Int)) && !hasD (.int (g.1 : Int)) (g.2.map fun (c : Nat) => PyData.int (c : Int)))) = true
  have h1 : isBD 120 (.int (g.1 : Int)) = true := isBD_iff.mpr ⟨_, rfl, by omega, by have := ok.t; omega⟩
  have h2 := risF_ok (l := -1) ok.up fun c hc => ⟨ok.c c hc, by omega⟩
  have h3 : hasD (.int (g.1 : Int)) (g.2.map fun (c : Nat) => PyData.int (c : Int)) = false := by
    unfold hasD
    rw [List.any_eq_false]
    intro x hx
    obtain ⟨c, hc, rfl⟩ := List.mem_map.mp hx
    have hne : (c : Int) ≠ (g.1 : Int) := fun e => ok.ne (by have : c = g.1 := by omega
                                                             rw [← this]; exact hc)
    show ¬ decide ((c : Int) = (g.1 : Int)) = true
    rw [decide_eq_false hne]
    decide
  rw [h1, h2, h3]
  rfl
/-- the bits that a gate touches -/
def topG (g : Gt) : Nat := g.2.foldr max g.1 + 1
theorem foldr_max {cs : List Nat} {t : Nat} : t ≤ cs.foldr max t ∧ (∀ c, c ∈ cs → c ≤ cs.foldr max t) ∧ (cs.foldr max t = t ∨ cs.foldr max t ∈ cs) := by
  induction cs with
  | nil => exact ⟨Nat.le_refl _, fun c h => by simp at h, .inl rfl⟩
  | cons c cs ih =>
    obtain ⟨h1, h2, h3⟩ := ih
    show t ≤ max c _ ∧ _ ∧ _
    refine ⟨by omega, fun x hx => ?_, ?_⟩
    · rcases List.mem_cons.mp hx with rfl | hx
      · exact Nat.le_max_left _ _
      · exact Nat.le_trans (h2 x hx) (Nat.le_max_right _ _)
    · show max c _ = t ∨ max c _ ∈ _
      rcases Nat.le_total c (cs.foldr max t) with h | h
      · rw [Nat.max_eq_right h]
        rcases h3 with h3 | h3
        · exact .inl h3
        · exact .inr (List.mem_cons_of_mem _ h3)
      · rw [Nat.max_eq_left h]
        exact .inr List.mem_cons_self
theorem topG_le {n : Nat} {g : Gt} (ok : GtOk n g) : topG g ≤ n := by
  unfold topG
  rcases (foldr_max (cs := g.2) (t := g.1)).2.2 with h | h
  · rw [h]; exact ok.t
  · exact ok.c _ h
theorem up_len {n : Nat} : ∀ {cs : List Nat} {l : Nat}, cs.Pairwise (· < ·) → (∀ c, c ∈ cs → l ≤ c ∧ c < n) → cs.length ≤ n - l
  | [], _, _, _ => Nat.zero_le _
  | c :: cs, l, hp, h => by
    rw [List.pairwise_cons] at hp
    obtain ⟨h1, h2⟩ := h c List.mem_cons_self
    have := up_len (l := c + 1) hp.2 fun x hx => ⟨hp.1 x hx, (h x (List.mem_cons_of_mem _ hx)).2⟩
    rw [List.length_cons]
    omega
theorem GtOk.len {n : Nat} {g : Gt} (h : GtOk n g) : g.2.length ≤ n := by
  have := up_len (l := 0) h.up fun c hc => ⟨Nat.zero_le _, h.c c hc⟩
  omega
theorem cInts_get {cs : List Nat} {i : Nat} {x : V} (hx : (cInts cs)[i]? = some x) : ∃ m : Nat, cs[i]? = some m ∧ x = .int (m : Int) := by
  unfold cInts at hx
  rw [List.getElem?_map] at hx
  cases e : cs[i]? with
  | none => rw [e] at hx; cases hx
  | some n => rw [e] at hx; exact ⟨n, rfl, (Option.some.inj hx).symm⟩
end Br

/-! ### bits, many gates; comprehensions with a test -/
namespace Br
open PySem PySem.Spec PyProof.Rows L2
theorem x_max {σ : L2.St} {H : Hp} {Q : VK} {K : PySem.W.Frag} {p : Addr} {ns : List Int} (hp : SqL K H p (ns.map V.int)) (h0 : 0 < ns.length) (q : ∀ m, m ∈ ns → (∀ y, y ∈ ns → y ≤ m) → Q (.int m) H) : rMax K [.ref p] H Q := ⟨p, ns, rfl, hp, h0, q⟩
theorem cInts_eq {cs : List Nat} : cInts cs = (cs.map fun (c : Nat) => (c : Int)).map V.int := by
  unfold cInts
  rw [List.map_map]
  rfl
theorem x_listT {K : PySem.W.Frag} {H : Hp} {Q : VK} {p : Addr} {xs : List V} (hp : SqT K H p xs) (q : ∀ l, H l = none → Q (.ref l) (L2.upd H l (.lst xs))) : rListOf K [.ref p] H Q := ⟨p, xs, rfl, .inr hp, q⟩
def bls (bs : List Bool) : List V := bs.map V.bl
theorem bls_get {bs : List Bool} {i : Nat} (h : i < bs.length) : (bls bs)[i]? = some (.bl (bs.getD i false)) := by
  unfold bls
  rw [List.getElem?_map, List.getElem?_eq_getElem h, List.getD_eq_getElem?_getD, List.getElem?_eq_getElem h]
  rfl
theorem bls_set {bs : List Bool} {i : Nat} {b : Bool} : (bls bs).set i (.bl b) = bls (bs.set i b) := by
  unfold bls
  rw [List.map_set]
theorem bls_len {bs : List Bool} : (bls bs).length = bs.length := by unfold bls; rw [List.length_map]
/-- many gates -/
def GtsAt (H : Hp) (as : List Addr) (gs : List Gt) : Prop := as.length = gs.length ∧ ∀ (i : Nat) x b, gs[i]? = some x → as[i]? = some b → GtAt H b x
theorem GtsAt.tups {H H' : Hp} {as : List Addr} {gs : List Gt} (h : GtsAt H as gs) (k : ∀ b xs, H b = some (.tup xs) → H' b = some (.tup xs)) : GtsAt H' as gs := ⟨h.1, fun i x b e1 e2 => (h.2 i x b e1 e2).tups k⟩
theorem GtsAt.get {H : Hp} {as : List Addr} {gs : List Gt} (h : GtsAt H as gs) {i : Nat} {b : Addr} (e : as[i]? = some b) : ∃ x, gs[i]? = some x ∧ GtAt H b x := by
  have hl := (List.getElem?_eq_some_iff.mp e).1
  have hl2 : i < gs.length := by rw [← h.1]; exact hl
  exact ⟨_, List.getElem?_eq_getElem hl2, h.2 i _ b (List.getElem?_eq_getElem hl2) e⟩
theorem take_snocG {α : Type} {ss : List α} {i : Nat} {s : α} (h : ss[i]? = some s) : ss.take (i + 1) = ss.take i ++ [s] := by rw [List.take_add_one, h]; rfl
/-- a comprehension over a tuple, with a test, that keeps the items that meet it -/
theorem x_lcTT {K : PySem.W.Frag} {σ : L2.St} {H : Hp} {Q : VK} {ta : TE} {tt : TT} {te : TE} {j : Nat} {vs : List Nat} {a : Addr} (xs : List V) (P : Addr → Nat → Hp → Prop) (hn : ∀ R : V → Hp → Prop, R (.ref a) H → ta σ H R) (ha : SqT K H a xs) (h0 : ∀ p, H p = none → P p 0 (L2.upd H p (.lst [])))
    (hl : ∀ p i H', H p = none → i ≤ xs.length → P p i H' → SqT K H' a xs) (hw : ∀ x, wipe ((wipe σ vs).set j (some x)) vs = wipe σ vs)
    (hs : ∀ p (i : Nat) x H', H p = none → xs[i]? = some x → P p i H' → tt ((wipe σ vs).set j (some x)) H' fun b H3 => if b = true then te ((wipe σ vs).set j (some x)) H3 fun y H4 => ∃ acc, H4 p = some (.lst acc) ∧ acc.length < sizeLine ∧ P p (i + 1) (L2.upd H4 p (.lst (acc ++ [y]))) else P p (i + 1) H3)
    (hd : ∀ p H', H p = none → P p xs.length H' → Q (.ref p) H') : tLc (iTup K ta) (gName j) tt te vs σ H Q := by
  refine hn _ ⟨a, rfl, ⟨xs, ha⟩, fun p hp => ?_⟩
  refine lc_tup (xs := xs) (Qd := fun H' => Q (.ref p) H') (P p) (h0 p hp) (fun i H' hi q => hl p i H' hp hi q) (fun i x H' hi q => ?_) fun H' q => hd p H' hp q
  exact ⟨hw _, hs p i x H' hp hi q⟩
theorem x_lcPreT {σ : L2.St} {H : Hp} {Q : VK} {ta : TE} {j : Nat} {tt : TT} {te : TE} {vs : List Nat} (h : ta σ H fun v H1 => tLc (iRng1 (tCons (tC v) tNil)) (gName j) tt te vs σ H1 Q) : tLc (iRng1 (tCons ta tNil)) (gName j) tt te vs σ H Q := h
/-- a comprehension over a range, with a test -/
theorem x_lcRT {σ : L2.St} {H : Hp} {Q : VK} {ta : TE} {tt : TT} {j : Nat} {te : TE} {vs : List Nat} (n : Int) (P : Addr → Nat → Hp → Prop) (hn : ∀ R : V → Hp → Prop, R (.int n) H → ta σ H R) (h1 : -(2 ^ 62) ≤ n) (h2 : n < 2 ^ 62) (h0 : ∀ p, H p = none → P p 0 (L2.upd H p (.lst [])))
    (hw : ∀ x, wipe ((wipe σ vs).set j (some x)) vs = wipe σ vs)
    (hs : ∀ p (i : Nat) H', H p = none → (i : Int) < n → P p i H' → tt ((wipe σ vs).set j (some (.int (i : Int)))) H' fun b H3 => if b = true then te ((wipe σ vs).set j (some (.int (i : Int)))) H3 fun y H4 => ∃ acc, H4 p = some (.lst acc) ∧ acc.length < sizeLine ∧ P p (i + 1) (L2.upd H4 p (.lst (acc ++ [y]))) else P p (i + 1) H3)
    (hd : ∀ p H', H p = none → P p n.toNat H' → Q (.ref p) H') : tLc (iRng1 (tCons ta tNil)) (gName j) tt te vs σ H Q := by
  refine hn _ ⟨n, rfl, h1, h2, fun p hp => ?_⟩
  refine lc_range (lo := 0) (Qd := fun H' => Q (.ref p) H') (P p) (h0 p hp) (fun i H' hi q => ?_) fun H' q => hd p H' hp q
  have e : (0 : Int) + (i : Int) = (i : Int) := Int.zero_add _
  rw [e]
  exact ⟨hw _, hs p i H' hp (by omega) q⟩
theorem up_snoc {cs : List Nat} {i : Nat} (h : cs.Pairwise (· < ·)) (hc : ∀ c, c ∈ cs → c < i) : (cs ++ [i]).Pairwise (· < ·) := by
  rw [List.pairwise_append]
  exact ⟨h, List.pairwise_singleton _ _, fun a ha b hb => by rw [List.mem_singleton.mp hb]; exact hc a ha⟩
theorem cInts_snoc {cs : List Nat} {i : Nat} : cInts cs ++ [.int (i : Int)] = cInts (cs ++ [i]) := by unfold cInts; rw [List.map_append]; rfl
theorem cInts_len {cs : List Nat} : (cInts cs).length = cs.length := by unfold cInts; rw [List.length_map]
theorem bls_snoc {bs : List Bool} {b : Bool} : bls bs ++ [.bl b] = bls (bs ++ [b]) := by unfold bls; rw [List.map_append]; rfl
/-- a comprehension of values, item by item -/
theorem x_lcV {wi : TI} {te : TE} {vs : List Nat} {j : Nat} {Q : VK} {σ : L2.St} {H : Hp} {J : It} {G : Hp → Prop} {xs : List V} (f : Nat → V) (hw : ∀ R : It → Hp → Prop, R J H → wi σ H R) (w : Walk J xs.length G (YAt xs)) (hn : xs.length ≤ 100000)
    (hG : ∀ H', Same H H' → G H') (hv : ∀ x, wipe ((wipe σ vs).set j (some x)) vs = wipe σ vs)
    (he : ∀ (i : Nat) x H', Same H H' → xs[i]? = some x → ∀ R : VK, (∀ H2, Same H' H2 → R (f i) H2) → te ((wipe σ vs).set j (some x)) H' R)
    (hd : ∀ p H', H p = none → Same H H' → H' p = some (.lst ((List.range xs.length).map f)) → Q (.ref p) H') : tLc wi (gName j) tYes te vs σ H Q := by
  refine x_lcI hw w (fun p i H' => Same H H' ∧ H' p = some (.lst ((List.range i).map f))) (fun p hp => ⟨same_upd hp, upd_same⟩) (fun p i H' _ _ z => hG H' z.1) ?_ (fun x σ' H' R R' hr h => hr _ _ h) fun p H' hp z => hd p H' hp z.1 z.2
  rintro p i x H' H2 hi hp ⟨hs, hl⟩ ⟨rfl, hx⟩
  refine x_gName ⟨hv x, he i x _ hs hx _ fun H3 hs3 => ?_⟩
  refine ⟨_, hs3 _ _ hl, lt_line (by simp; omega), sput (hs.trans hs3) hp, ?_⟩
  rw [upd_same, List.range_succ, List.map_append]
  rfl
theorem range_map {α β : Type} {ds : List α} {f : α → β} {d : α} : ((List.range ds.length).map fun i => f (ds.getD i d)) = ds.map f := by
  apply List.ext_getElem?
  intro i
  rw [List.getElem?_map, List.getElem?_map]
  by_cases h : i < ds.length
  · rw [List.getElem?_range h, List.getElem?_eq_getElem h]
    show some (f (ds.getD i d)) = some (f ds[i])
    rw [List.getD_eq_getElem?_getD, List.getElem?_eq_getElem h]; rfl
  · rw [List.getElem?_eq_none (by simpa using h), List.getElem?_eq_none (by simpa using h)]
    rfl
theorem getDT {α : Type} {ds : List α} {i : Nat} {e d : α} (h : ds[i]? = some e) : ds.getD i d = e := by rw [List.getD_eq_getElem?_getD, h]; rfl
theorem GtsAt.snoc {H : Hp} {as : List Addr} {gs : List Gt} {b : Addr} {x : Gt} (h : GtsAt H as gs) (hx : GtAt H b x) : GtsAt H (as ++ [b]) (gs ++ [x]) := by
  refine ⟨by rw [List.length_append, List.length_append, h.1]; rfl, fun i y c e1 e2 => ?_⟩
  rcases snoc_at rfl e1 with ⟨h1, e1⟩ | ⟨h1, rfl⟩
  · rcases snoc_at rfl e2 with ⟨h2, e2⟩ | ⟨h2, rfl⟩
    · exact h.2 i y c e1 e2
    · have := h.1; omega
  · rcases snoc_at rfl e2 with ⟨h2, e2⟩ | ⟨h2, rfl⟩
    · have := h.1; omega
    · exact hx
theorem x_lcPreLT {K : PySem.W.Frag} {σ : L2.St} {H : Hp} {Q : VK} {te : TE} {ta : TE} {tt : TT} {j : Nat} {vs : List Nat} (h : ta σ H fun v H1 => tLc (iList K (tC v)) (gName j) tt te vs σ H1 Q) : tLc (iList K ta) (gName j) tt te vs σ H Q := h
/-- a comprehension over a list, with a test -/
theorem x_lcLT {K : PySem.W.Frag} {σ : L2.St} {H : Hp} {Q : VK} {ta : TE} {tt : TT} {te : TE} {j : Nat} {vs : List Nat} {a : Addr} (xs : List V) (P : Addr → Nat → Hp → Prop) (hn : ∀ R : V → Hp → Prop, R (.ref a) H → ta σ H R) (ha : SqL K H a xs) (h0 : ∀ p, H p = none → P p 0 (L2.upd H p (.lst [])))
    (hl : ∀ p i H', H p = none → i ≤ xs.length → P p i H' → SqL K H' a xs) (hw : ∀ x, wipe ((wipe σ vs).set j (some x)) vs = wipe σ vs)
    (hs : ∀ p (i : Nat) x H', H p = none → xs[i]? = some x → P p i H' → tt ((wipe σ vs).set j (some x)) H' fun b H3 => if b = true then te ((wipe σ vs).set j (some x)) H3 fun y H4 => ∃ acc, H4 p = some (.lst acc) ∧ acc.length < sizeLine ∧ P p (i + 1) (L2.upd H4 p (.lst (acc ++ [y]))) else P p (i + 1) H3)
    (hd : ∀ p H', H p = none → P p xs.length H' → Q (.ref p) H') : tLc (iList K ta) (gName j) tt te vs σ H Q := by
  refine hn _ ⟨a, rfl, ⟨xs, ha⟩, fun p hp => ?_⟩
  refine lc_list (xs := xs) (Qd := fun H' => Q (.ref p) H') (P p) (h0 p hp) (fun i H' hi q => hl p i H' hp hi q) (fun i x H' hi q => ?_) fun H' q => hd p H' hp q
  exact ⟨hw _, hs p i x H' hp hi q⟩
def bitsD (n : Int) : PyData → Bool
  | .list es => decide (n ≤ (es.length : Int)) && es.all isBlD
  | _ => false
def blsD (bs : List Bool) : PyData := .list (bs.map PyData.bool)
theorem bitsD_iff {n : Int} {e : PyData} : bitsD n e = true ↔ ∃ bs : List Bool, e = blsD bs ∧ n ≤ (bs.length : Int) := by
  constructor
  · intro h
    cases e with
    | list es =>
      have h : (decide (n ≤ (es.length : Int)) && es.all isBlD) = true := h
      rw [Bool.and_eq_true, decide_eq_true_iff] at h
      have : ∀ es : List PyData, es.all isBlD = true → ∃ bs : List Bool, es = bs.map PyData.bool := by
        intro es
        induction es with
        | nil => intro _; exact ⟨[], rfl⟩
        | cons e es ih =>
          intro h
          rw [List.all_cons, Bool.and_eq_true] at h
          obtain ⟨bs, rfl⟩ := ih h.2
          cases e with
          | bool b => exact ⟨b :: bs, rfl⟩
          | _ => cases h.1
      obtain ⟨bs, rfl⟩ := this es h.2
      exact ⟨bs, rfl, by have := h.1; rw [List.length_map] at this; exact this⟩
    | _ => cases h
  · rintro ⟨bs, rfl, h⟩
    show (decide (n ≤ ((bs.map PyData.bool).length : Int)) && (bs.map PyData.bool).all isBlD) = true
    rw [List.length_map, decide_eq_true h, Bool.true_and, List.all_eq_true]
    intro e he
    obtain ⟨b, _, rfl⟩ := List.mem_map.mp he
    rfl
theorem blsD_at {d : Addr} {H : Hp} {v : V} {bs : List Bool} (h : DAt d H v (blsD bs)) : ∃ a, v = .ref a ∧ H a = some (.lst (bls bs)) := by
  unfold blsD at h
  cases h with
  | lst hd h hs =>
    rename_i a xs
    refine ⟨a, rfl, ?_⟩
    have : ∀ {bs : List Bool} {xs : List V}, DAts d H xs (bs.map PyData.bool) → xs = bls bs := by
      intro bs
      induction bs with
      | nil => intro xs h; cases h; rfl
      | cons b bs ih =>
        intro xs h
        cases h with
        | cons h hs =>
          cases h
          rw [ih hs]
          rfl
    rw [h, this hs]
end Br

/-! ### words as data, and what they do -/
namespace Br
open PySem PySem.Spec PyProof.Rows L2
theorem cutV_to {xs : List V} {k : Nat} (h : k ≤ xs.length) : cutV xs none (some (k : Int)) = xs.take k := by
  unfold cutV
  rw [HT.sIx_none, HT.sIx_nat, Nat.min_eq_left h, List.drop_zero, Nat.sub_zero]
theorem cutV_from {xs : List V} {k : Nat} (h : k ≤ xs.length) : cutV xs (some (k : Int)) none = xs.drop k := by
  unfold cutV
  rw [HT.sIx_none, HT.sIx_nat, Nat.min_eq_left h]
  exact List.take_of_length_le (by rw [List.length_drop]; exact Nat.le_refl _)
/-! slices -/
section
variable {σ : L2.St} {H : Hp} {Q : VK} {R : Option Int → Hp → Prop}
theorem x_gTup3 {K : PySem.W.Frag} {σ : L2.St} {H : Hp} {p : Addr} {x y z : V} {i j k : Nat} {R : L2.St → Hp → Prop} (hp : SqT K H p [x, y, z]) (h : R (((σ.set i (some x)).set j (some y)).set k (some z)) H) : gTup K 3 (gCons (gName i) (gCons (gName j) (gCons (gName k) gNil))) (.ref p) σ H R :=
  ⟨p, [x, y, z], rfl, hp, rfl, x, [y, z], rfl, y, [z], rfl, z, [], rfl, rfl, h⟩
end
structure PmOk (p : List Nat) : Prop where
  len : p.length = 5
  lt : ∀ x, x ∈ p → x < 5
  nd : p.Nodup
abbrev Tr := Nat × List Nat × List Nat
def TrOk (t : Tr) : Prop := t.1 < 60 ∧ PmOk t.2.1 ∧ PmOk t.2.2
def pmD (p : List Nat) : PyData := .tuple (p.map fun (c : Nat) => PyData.int (c : Int))
def trD (t : Tr) : PyData := .tuple [.int (t.1 : Int), pmD t.2.1, pmD t.2.2]
def TrAt (H : Hp) (a : Addr) (t : Tr) : Prop := ∃ z o : Addr, H a = some (.tup [.int (t.1 : Int), .ref z, .ref o]) ∧ H z = some (.tup (cInts t.2.1)) ∧ H o = some (.tup (cInts t.2.2))
theorem TrAt.tups {H H' : Hp} {a : Addr} {t : Tr} (h : TrAt H a t) (k : ∀ b xs, H b = some (.tup xs) → H' b = some (.tup xs)) : TrAt H' a t := by
  obtain ⟨z, o, h1, h2, h3⟩ := h
  exact ⟨z, o, k _ _ h1, k _ _ h2, k _ _ h3⟩
theorem TrAt.dat {d a : Addr} {H : Hp} {t : Tr} (h : TrAt H a t) : DAt d H (.ref a) (trD t) := by
  obtain ⟨z, o, h1, h2, h3⟩ := h
  exact .tup h1 (.cons (.int _) (.cons (.tup h2 cInts_at) (.cons (.tup h3 cInts_at) .nil)))
/-- back from data -/
theorem cInts_of {d : Addr} {H : Hp} : ∀ {xs : List V} {cs : List Nat}, DAts d H xs (cs.map fun (c : Nat) => PyData.int (c : Int)) → xs = cInts cs
  | [], [], _ => rfl
  | v :: xs, c :: cs, h => by
    cases h with
    | cons h hs =>
      cases h
      rw [cInts_of hs]
      rfl
  | [], _ :: _, h => by cases h
  | _ :: _, [], h => by cases h
theorem pmD_at {d : Addr} {H : Hp} {v : V} {p : List Nat} (h : DAt d H v (pmD p)) : ∃ z, v = .ref z ∧ H z = some (.tup (cInts p)) := by
  unfold pmD at h
  cases h with
  | tup h hs =>
    rename_i a xs
    refine ⟨a, rfl, ?_⟩
    rw [h, cInts_of hs]
theorem trD_at {d : Addr} {H : Hp} {v : V} {t : Tr} (h : DAt d H v (trD t)) : ∃ a, v = .ref a ∧ TrAt H a t := by
  unfold trD at h
  cases h with
  | tup h hs =>
    rename_i a xs
    cases hs with
    | cons h1 hs =>
      cases h1
      cases hs with
      | cons h2 hs =>
        cases hs with
        | cons h3 hs =>
          cases hs
          obtain ⟨z, rfl, e2⟩ := pmD_at h2
          obtain ⟨o, rfl, e3⟩ := pmD_at h3
          exact ⟨a, rfl, z, o, h, e2, e3⟩
/-- the checks -/
def intD : PyData → Int
  | .int i => i
  | _ => 0
def permD : PyData → Bool
  | .tuple es => decide (es.length = 5) && (es.all (isBD 5) && decide (es.map intD).Nodup)
  | _ => false
def tripD : PyData → Bool
  | .tuple [k, z, o] => isBD 60 k && (permD z && permD o)
  | _ => false
def wordD : PyData → Bool
  | .list es => decide (es.length ≤ 20000) && es.all tripD
  | _ => false
theorem ints_nat : ∀ {es : List PyData} {b : Nat}, es.all (isBD (b : Int)) = true → ∃ cs : List Nat, es = cs.map (fun (c : Nat) => PyData.int (c : Int)) ∧ ∀ c, c ∈ cs → c < b
  | [], _, _ => ⟨[], rfl, fun c h => by simp at h⟩
  | e :: es, b, h => by
    rw [List.all_cons, Bool.and_eq_true] at h
    obtain ⟨i, rfl, i0, i1⟩ := isBD_iff.mp h.1
    obtain ⟨cs, rfl, hc⟩ := ints_nat h.2
    refine ⟨i.toNat :: cs, ?_, fun c hc' => ?_⟩
    · rw [List.map_cons]
      congr 2
      omega
    · rcases List.mem_cons.mp hc' with rfl | hc'
      · omega
      · exact hc c hc'
theorem map_intD {cs : List Nat} : (cs.map fun (c : Nat) => PyData.int (c : Int)).map intD = cs.map fun (c : Nat) => (c : Int) := by rw [List.map_map]; rfl
theorem nodup_cast {cs : List Nat} : (cs.map fun (c : Nat) => (c : Int)).Nodup ↔ cs.Nodup := by
  unfold List.Nodup
  rw [List.pairwise_map]
  exact ⟨fun h => h.imp fun hh e => hh (by rw [e]), fun h => h.imp fun hh e => hh (Int.ofNat.inj e)⟩
theorem permD_iff {e : PyData} : permD e = true ↔ ∃ p, e = pmD p ∧ PmOk p := by
  constructor
  · intro h
    cases e with
    | tuple es =>
      have h : (decide (es.length = 5) && (es.all (isBD 5) && decide (es.map intD).Nodup)) = true := h
      rw [Bool.and_eq_true, Bool.and_eq_true (es.all _), decide_eq_true_iff, decide_eq_true_iff] at h
      obtain ⟨h1, h2, h3⟩ := h
      obtain ⟨cs, rfl, hc⟩ := ints_nat (b := 5) h2
      rw [map_intD, nodup_cast] at h3
      exact ⟨cs, rfl, by rw [List.length_map] at h1; exact h1, hc, h3⟩
    | _ => cases h
  · rintro ⟨p, rfl, h⟩
    show (decide ((p.map _).length = 5) && ((p.map _).all (isBD 5) && decide ((p.map _).map intD).Nodup)) = true
    rw [map_intD, List.length_map, decide_eq_true h.len, decide_eq_true (nodup_cast.mpr h.nd), Bool.and_true, Bool.true_and, List.all_eq_true]
    intro x hx
    obtain ⟨c, hc, rfl⟩ := List.mem_map.mp hx
    exact isBD_iff.mpr ⟨_, rfl, by omega, by have := h.lt c hc; omega⟩
theorem tripD_iff {e : PyData} : tripD e = true ↔ ∃ t, e = trD t ∧ TrOk t := by
  constructor
  · intro h
    match e, h with
    | .tuple [k, z, o], h =>
      have h : (isBD 60 k && (permD z && permD o)) = true := h
      rw [Bool.and_eq_true, Bool.and_eq_true (permD z)] at h
      obtain ⟨i, rfl, i0, i1⟩ := isBD_iff.mp h.1
      obtain ⟨p, rfl, hp⟩ := permD_iff.mp h.2.1
      obtain ⟨p2, rfl, hp2⟩ := permD_iff.mp h.2.2
      refine ⟨(i.toNat, p, p2), ?_, by show i.toNat < 60; omega, hp, hp2⟩
      show PyData.tuple _ = .tuple [.int ((i.toNat : Nat) : Int), _, _]
      rw [show ((i.toNat : Nat) : Int) = i by omega]
  · rintro ⟨t, rfl, h1, h2, h3⟩
    show (isBD 60 (.int (t.1 : Int)) && (permD (pmD t.2.1) && permD (pmD t.2.2))) = true
    rw [isBD_iff.mpr ⟨_, rfl, by omega, by omega⟩, permD_iff.mpr ⟨_, rfl, h2⟩, permD_iff.mpr ⟨_, rfl, h3⟩]
    rfl
theorem trips_of : ∀ {es : List PyData}, es.all tripD = true → ∃ ws : List Tr, es = ws.map trD ∧ ∀ t, t ∈ ws → TrOk t
  | [], _ => ⟨[], rfl, fun t h => by simp at h⟩
  | e :: es, h => by
    rw [List.all_cons, Bool.and_eq_true] at h
    obtain ⟨t, rfl, ht⟩ := tripD_iff.mp h.1
    obtain ⟨ws, rfl, hw⟩ := trips_of h.2
    refine ⟨t :: ws, rfl, fun x hx => ?_⟩
    rcases List.mem_cons.mp hx with rfl | hx
    · exact ht
    · exact hw x hx
theorem wordD_iff {e : PyData} : wordD e = true ↔ ∃ ws : List Tr, e = .list (ws.map trD) ∧ ws.length ≤ 20000 ∧ ∀ t, t ∈ ws → TrOk t := by
  constructor
  · intro h
    cases e with
    | list es =>
      have h : (decide (es.length ≤ 20000) && es.all tripD) = true := h
      rw [Bool.and_eq_true, decide_eq_true_iff] at h
      obtain ⟨ws, rfl, hw⟩ := trips_of h.2
      exact ⟨ws, rfl, by have := h.1; rw [List.length_map] at this; exact this, hw⟩
    | _ => cases h
  · rintro ⟨ws, rfl, hl, hw⟩
    show (decide ((ws.map trD).length ≤ 20000) && (ws.map trD).all tripD) = true
    rw [List.length_map, decide_eq_true hl, Bool.true_and, List.all_eq_true]
    intro x hx
    obtain ⟨t, ht, rfl⟩ := List.mem_map.mp hx
    exact tripD_iff.mpr ⟨t, rfl, hw t ht⟩
/-- what a word does -/
def stepW (bs : List Bool) (p : Nat) (t : Tr) : Nat := (if bs.getD t.1 false then t.2.2 else t.2.1).getD p 0
def effF (ws : List Tr) (bs : List Bool) (p : Nat) : Nat := ws.foldl (stepW bs) p
theorem effF_snoc {ws : List Tr} {t : Tr} {bs : List Bool} {p : Nat} : effF (ws ++ [t]) bs p = stepW bs (effF ws bs p) t := by
  unfold effF
  rw [List.foldl_append]
  rfl
theorem pm_get {p : List Nat} (h : PmOk p) {i : Nat} (hi : i < 5) : p[i]? = some (p.getD i 0) ∧ p.getD i 0 < 5 := by
  have hl : i < p.length := by rw [h.len]; exact hi
  have e : p.getD i 0 = p[i] := by rw [List.getD_eq_getElem?_getD, List.getElem?_eq_getElem hl]; rfl
  rw [e]
  exact ⟨List.getElem?_eq_getElem hl, h.lt _ (List.getElem_mem hl)⟩
theorem effF_lt {bs : List Bool} : ∀ {ws : List Tr} {p : Nat}, (∀ t, t ∈ ws → TrOk t) → p < 5 → effF ws bs p < 5
  | [], _, _, hp => hp
  | t :: ws, p, h, hp => by
    have ht := h t List.mem_cons_self
    refine effF_lt (p := stepW bs p t) (fun x hx => h x (List.mem_cons_of_mem _ hx)) ?_
    unfold stepW
    split
    · exact (pm_get ht.2.2 hp).2
    · exact (pm_get ht.2.1 hp).2
/-- the bits that a word needs -/
def needW (ws : List Tr) : Nat := (ws.map fun t => t.1 + 1).foldr max 0
theorem needW_le {ws : List Tr} {t : Tr} (h : t ∈ ws) : t.1 + 1 ≤ needW ws := (foldr_max (cs := ws.map fun t => t.1 + 1) (t := 0)).2.1 _ (List.mem_map.mpr ⟨t, h, rfl⟩)
theorem needW_max {ws : List Tr} {m : Int} (h : (ws = [] ∧ m = 0) ∨ (m ∈ ws.map (fun t => ((t.1 : Int) + 1)) ∧ ∀ y, y ∈ ws.map (fun t => ((t.1 : Int) + 1)) → y ≤ m)) : m = (needW ws : Nat) := by
  rcases h with ⟨rfl, rfl⟩ | ⟨h1, h2⟩
  · rfl
  · obtain ⟨t, ht, rfl⟩ := List.mem_map.mp h1
    have k1 := needW_le ht
    have k2 : (needW ws : Int) ≤ (t.1 : Int) + 1 := by
      rcases (foldr_max (cs := ws.map fun t => t.1 + 1) (t := 0)).2.2 with e | e
      · have : needW ws = 0 := e
        omega
      · obtain ⟨u, hu, e⟩ := List.mem_map.mp e
        have := h2 _ (List.mem_map.mpr ⟨u, hu, rfl⟩)
        have e : u.1 + 1 = needW ws := e
        omega
    omega
theorem needW_60 {ws : List Tr} (h : ∀ t, t ∈ ws → TrOk t) : needW ws ≤ 60 := by
  rcases (foldr_max (cs := ws.map fun t => t.1 + 1) (t := 0)).2.2 with e | e
  · have : needW ws = 0 := e
    omega
  · obtain ⟨u, hu, e⟩ := List.mem_map.mp e
    have := (h u hu).1
    have e : u.1 + 1 = needW ws := e
    omega
end Br

/-! ### exceptions of the program: what a suite asks of the one it holds -/
namespace Br
open PySem PySem.Spec PyProof.Rows L2
theorem kit_ref {K : PySem.W.Frag} {D Y : Addr} {b : Bool} (hd : PySem.W.hasDictIn K Y = true) (ht : PySem.W.typeIn K (.ref Y) = some (.type "type")) (h : PySem.W.subIn K (.ref D) (.ref Y) = some b) (hs : PySem.W.subIn K (.ref Y) (.ref Y) = some true) : PySem.W.kitOne K (.ref D) (.ref Y) = some b := by
  unfold PySem.W.kitOne
  by_cases e : D = Y
  · subst e
    rw [h] at hs
    cases hs
    rw [if_pos (by simp)]
  · have hne : ((Value.ref D : Value) == Value.ref Y) = false := by
      rw [beq_eq_false_iff_ne]
      intro z
      cases z
      exact e rfl
    rw [hne, if_neg Bool.false_ne_true]
    obtain ⟨cd, hc, _⟩ := PySem.W.any_some hd
    have e2 : ((PySem.W.clsIn K Y).isSome && PySem.W.typeIn K (.ref Y) == some (.type "type")) = true := by rw [hc, ht]; rfl
    show (if ((PySem.W.clsIn K Y).isSome && PySem.W.typeIn K (.ref Y) == some (.type "type")) = true then PySem.W.subIn K (.ref D) (.ref Y) else none) = some b
    rw [if_pos e2]
    exact h
/-- isinstance(e, c), e what the suite holds, of whatever class -/
def rIsEQ (K : PySem.W.Frag) (a : Addr) (cls : Value) (d : Option Addr) : List V → Hp → VK → Prop := fun xs H Q => ∃ (D : Addr) (C : Addr) (b : Bool), cls = .ref D ∧ d = none ∧ ExcC K D ∧ xs = [.ref a, .ref C] ∧ PySem.W.kitOne K (.ref D) (.ref C) = some b ∧ Q (.bl b) H
theorem call_isEQ {X : Cx} {a : Addr} {oe : Obj} {cls : Value} {d : Option Addr} {pn : List (Addr × Obj)} {K : PySem.W.Frag} (hK : X.K = K) (hz : Zc cls d oe) (hf : ∃ vs, oe.data = .fields vs) : CallR (X.suite a ((a, oe) :: pn)) (.builtin "isinstance") (rIsEQ K a cls d) := by
  subst hK
  intro pins s σ H xs us Q I r h
  obtain ⟨D, C, b, rfl, rfl, hC, rfl, hk, q⟩ := h
  exact call_isE hC hz hf pins s σ H _ us Q I r ⟨.ref C, .ref C, b, rfl, fun u hu => hu, hk, q⟩
section
variable {σ : L2.St} {H : Hp} {D : Ends}
theorem x_callS {sp : Sp} {E : L2.St → XK} {t : TA} {Q : VK} (h : t σ H fun vs H1 => sp vs H1 Q (E σ)) : tCallS sp E t σ H Q := h
end
/-- a method's call within a try: what it raises is wished for at the slots as they stand -/
def tMethX (C : Addr) (m : Str) (sp : Sp) (E : L2.St → XK) (ta : TE) (t : TA) : TE := fun σ H Q => ta σ H fun x H1 => ∃ a dx fs, x = .ref a ∧ H1 a = some (.ins C dx fs) ∧ fs.lookup m = none ∧ t σ H1 fun vs H2 => sp (x :: vs) H2 Q (E σ)
theorem pe_methX {X : Cx} {CX : CXT} {k : Nat} {f C : Addr} {fd : FuncData} {ps : List Str} {sp : Sp} {E : L2.St → XK} {m : Str} {pos apos : Pos} {e o : Expr} {es : List Expr} {ta : TE} {t : TA} {pl : Sem Bool} (he : PE X o ta) (c : Cls X.K C) (hm : Meth X.K C m f)
    (F : FnOk X.prog X.w X.K X.mg X.base CX k f fd ps sp) (hr : Room k X.A) (hb : Binds X.K fd ps []) (hx : ∀ σ, PassesAt CX X σ (E σ)) (ha : PA X (e :: es) t)
    (hst : starEach (e :: es) X.env = (false, eval e X.env) :: starEach es X.env := by rfl) (hpl : (backTo pos (starEach es X.env)).any (·.1) = false := by rfl)
    (ht : eval (.Call (.Attribute o m apos) (e :: es) [] pos) X.env = (do
      let ov ← eval o X.env
      standAt apos.atName
      let (f, first) ← holding [ov] (getMethod ov m pl)
      callWith pos f first (backTo pos (starEach (e :: es) X.env)) (backToKw pos (keywordEach [] X.env))) := by rfl) :
    PE X (.Call (.Attribute o m apos) (e :: es) [] pos) (tMethX C m sp E ta t) := by
  refine ⟨fun pins s σ H Q I h => ?_⟩
  refine PySem.W.methodCall_KW (pl := pl) (thn (he.run pins s σ H _ I h) fun u s1 ⟨x, H1, I1, rx, a, dx, fs, ex, ea, l, q⟩ => ?_) ht
  subst ex
  obtain rfl : u = Value.ref a := rx
  refine getmeth_ok I1 ea c hm l ?_
  refine PySem.W.callWith_K (first := [.ref a]) (h₀ := X.base) I.ok.mod.kin hm.kp (thn (ha.run pos pins s1 σ H1 _ I1 q) fun us s2 ⟨vs, H2, I2, r, q2⟩ => ⟨I2.kIn, ?_⟩) hst hpl
  exact run_fnS (us := .ref a :: us) (vs := .ref a :: vs) F hr hb (hx σ) I2 (.cons rfl r) q2
theorem x_methX {C : Addr} {m : Str} {sp : Sp} {E : L2.St → XK} {ta : TE} {t : TA} {σ : L2.St} {H : Hp} {Q : VK} (h : ta σ H fun x H1 => ∃ a dx fs, x = .ref a ∧ H1 a = some (.ins C dx fs) ∧ fs.lookup m = none ∧ t σ H1 fun vs H2 => sp (x :: vs) H2 Q (E σ)) : tMethX C m sp E ta t σ H Q := h
/-! texts with numbers -/
theorem x_fmt {te : TE} {σ : L2.St} {H : Hp} {Q : VK} (h : te σ H fun x H1 => (∃ y : Str, x = .str y ∧ y.length ≤ sizeLine ∧ Q (.str y) H1) ∨ ∃ i : Int, x = .int i ∧ i.natAbs.log2 < 1920 ∧ Q (.str (toString i)) H1) : tFmt te σ H Q := h
theorem len_nat {n : Nat} (h : n < 10 ^ 10) : (Str.ofString (toString (n : Int))).length ≤ 10 := toString_length_le (Int.natCast_nonneg n) (by decide) (by exact_mod_cast h)
theorem log_nat {n : Nat} (h : n < 2 ^ 64) : ((n : Int)).natAbs.log2 < 1920 := by
  rw [Int.natAbs_natCast]
  by_cases h0 : n = 0
  · subst h0; decide
  · have := (Nat.log2_lt h0).mpr h
    omega
end Br
/-! isinstance(e, (C1, C2, ..)), e what the suite holds -/
namespace Br
open PySem PySem.Spec PyProof.Rows L2
def rIsEQT (K : PySem.W.Frag) (a : Addr) (cls : Value) (d : Option Addr) : List V → Hp → VK → Prop := fun xs H Q => ∃ (D tp : Addr) (cs : List V) (us : List Value) (b : Bool), cls = .ref D ∧ d = none ∧ ExcC K D ∧ xs = [.ref a, .ref tp] ∧ H tp = some (.tup cs) ∧ Paired ClsV cs us ∧ PySem.W.kitAny K (.ref D) us = some b ∧ Q (.bl b) H
theorem call_isEQT {X : Cx} {a : Addr} {oe : Obj} {cls : Value} {d : Option Addr} {pn : List (Addr × Obj)} {K : PySem.W.Frag} (hK : X.K = K) (hz : Zc cls d oe) (hf : ∃ vs, oe.data = .fields vs) : CallR (X.suite a ((a, oe) :: pn)) (.builtin "isinstance") (rIsEQT K a cls d) := by
  subst hK
  intro pins s σ H xs us Q I r h
  obtain ⟨D, tp, cs, ws, b, rfl, rfl, C, rfl, hT, k, e, q⟩ := h
  obtain ⟨u1, u2, rfl, rx, rt⟩ := vals2 r
  cases (show u2 = Value.ref tp from rt)
  cases (show u1 = Value.ref a from rx)
  obtain ⟨hget, _⟩ := I.pin (a, oe) (List.mem_append.mpr (.inl List.mem_cons_self))
  obtain ⟨vs, hv⟩ := hf
  have J : PySem.W.InstAt s.heap a oe D none := by
    obtain ⟨oc, od, oda, osl⟩ := oe
    obtain ⟨h1, h2⟩ := hz
    dsimp only at h1 h2 hv
    subst h1 h2 hv
    exact ⟨hget, rfl, rfl, trivial⟩
  obtain ⟨_, its, rv, o, h1, h2, n, h3⟩ := (show ObjOk _ _ H s.heap tp (.tup cs) from I.hok tp _ hT)
  have e3 := ClsV.all k rv
  subst e3
  obtain ⟨oc, od, dt, sl⟩ := o
  simp only at h2 h3
  subst h2 h3
  exact PySem.W.kia_tup (PySem.W.handS_kitx_exc C.hg C.hk C.hs C.hd C.ha C.hn C.ht C.hm) I.kIn J h1 e (fun z => nomatch z) fun tk => ⟨.bl b, H, I.kept (t' := tk) fun _ _ z => z, rfl, q⟩
end Br
namespace Br
open PySem PySem.Spec PyProof.Rows L2
/-! isinstance(e, ValueError), e what the suite holds -/
def rIsEV (K : PySem.W.Frag) (a : Addr) (cls : Value) (d : Option Addr) : List V → Hp → VK → Prop := fun xs H Q => ∃ (D : Addr) (T : String) (b : Bool), cls = .ref D ∧ d = none ∧ ExcC K D ∧ xs = [.ref a, .ty T] ∧ PySem.W.kitOne K (.ref D) (.type T) = some b ∧ Q (.bl b) H
theorem call_isEV {X : Cx} {a : Addr} {oe : Obj} {cls : Value} {d : Option Addr} {pn : List (Addr × Obj)} {K : PySem.W.Frag} (hK : X.K = K) (hz : Zc cls d oe) (hf : ∃ vs, oe.data = .fields vs) : CallR (X.suite a ((a, oe) :: pn)) (.builtin "isinstance") (rIsEV K a cls d) := by
  subst hK
  intro pins s σ H xs us Q I r h
  obtain ⟨D, T, b, rfl, rfl, hC, rfl, hk, q⟩ := h
  exact call_isE hC hz hf pins s σ H _ us Q I r ⟨.ty T, .type T, b, rfl, fun u hu => hu, hk, q⟩
theorem kit_val {K : PySem.W.Frag} {D : Addr} (h : PySem.W.subIn K (.ref D) (.type "ValueError") = some true) : PySem.W.kitOne K (.ref D) (.type "ValueError") = some true := by
  unfold PySem.W.kitOne
  rw [if_neg (by rw [show ((Value.ref D : Value) == Value.type "ValueError") = false from rfl]; decide)]
  show (if PySem.W.kitMeta "ValueError" = true then PySem.W.subIn K (.ref D) (.type "ValueError") else none) = some true
  rw [if_pos (by decide +kernel)]
  exact h
end Br

/-! ### sorted(set(xs)), xs a short list of areI -/
namespace Br
open PySem PySem.Spec PyProof.Rows L2
/-- an empty set as set() makes it -/
abbrev emptyS (w : World) : Obj := { cls := .type "set", dict := none, data := .set #[] 0 (.fresh 0 0 (!w.params.followText "set-order")) }
section
variable {P : Program} {w : World} {A : Around} {E : Value → Shared → Prop} {s : Shared}
set_option maxRecDepth 100000 in
set_option maxHeartbeats 3200000 in
theorem set_of_list {p : Addr} {us : Array Value} (zs : List Int) {Q : Value → Shared → Prop} (calm : A.handled = none) (isL : s.heap.IsList p us) (areI : IntsAre us.toList zs) (small : zs.length + 1 < scanBound)
    (fin : ∀ (g : Heap) (tk c : Nat), SetR w g s.heap.objs.size (fun j => decide (j ∈ zs)) c → c ≤ zs.length → (∀ b o, s.heap.get? b = some o → g.get? b = some o) → Q (.ref s.heap.objs.size) { s with heap := g, toks := tk }) :
    wpAny (model P w) A (call (.type "set") [.ref p]) Q E s := by
  have size : us.size = zs.length := (Array.length_toList (xs := us)).symm.trans areI.length
  obtain ⟨cm, tm, mroS⟩ := F.called_set.mro
  have madeS := F.called_set.made
  have subS := F.called_set.sub
  refine wpAny_call (codeAny_of_tree ?_)
  show wpAny (model P w) A.in1 (callAny (.type "set") _) _ _ s
  refine wpAny_pure (And.intro (Code.quiet_builtin _ (by decide +kernel)) (codeAny_builtin F.entry_type_call ?_))
  rw [Around.under_plain (weight_type_call_type "set" [.ref p] []) rfl]
  have nt := F.called_set.notType
  have cc := F.called_set.canCreate
  have tc := F.typeCall_set_1 (.ref p)
  repeat (any_goals first | assumption | wp_step)
  refine codeAny_mono (code_set_led1 (.ref p) (E := E) (Q₁ := fun obj t => obj = .ref s.heap.objs.size ∧ t = { s with heap := s.heap.push (emptyS w) }) ⟨rfl, rfl⟩) fun r t hr => ?_
  match r, hr with
  | .error e, hr => exact hr
  | .ok (.ret obj), ⟨e1, e2⟩ =>
    subst e1 e2
    have got : (s.heap.push (emptyS w)).get? s.heap.objs.size = some (emptyS w) := Heap.get?_push_size _ rfl
    have typ : Shared.TypeIs { s with heap := s.heap.push (emptyS w) } (.ref s.heap.objs.size) "set" := ⟨_, got, rfl⟩
    have il := F.called_set.init.lookup
    have ib := F.called_set.init.bind (.ref s.heap.objs.size)
    repeat (any_goals first | assumption | wp_step)
    refine codeAny_mono (codeAny_call_builtin (R := wants (fun r u => r = .none ∧ ∃ g tk c, u = { s with heap := g, toks := tk } ∧ SetR w g s.heap.objs.size (fun j => decide (j ∈ zs)) c ∧ c ≤ zs.length ∧ (∀ b o, s.heap.get? b = some o → g.get? b = some o)) E) F.called_set.init.plain F.entry_set_init (check_set_init_1 typ ?_)) fun r2 u hr2 => ?_
    · obtain ⟨⟨oc, od, oD, oS⟩, atP, hc, nl, hd⟩ := isL
      dsimp only at hc hd
      subst hc
      subst hd
      have atP2 : (s.heap.push (emptyS w)).get? p = some { cls := .type "list", dict := od, data := .seq us nl, slots := oS } := Heap.get?_push_of_some _ atP
      have s1 := F.sub_list_set
      have s2 := F.sub_list_frozenset
      have nd : (Value.type "list" == Value.type "dict") = false := by decide
      have isL2 : (s.heap.push (emptyS w)).IsList p us := ⟨_, atP2, rfl, nl, rfl⟩
      unfold Builtin.«set.__init__» noKeywords Builtin.Frozenset.updateFrom
      generalize hIt : pyIter = It
      wp_walk
      subst hIt
      refine wpAny_pyIter_list isL2 (wpAny_bind (wpAny_runValue ?_))
      have below : p < s.heap.objs.size := Heap.lt_size atP
      have calm3 : A.in1.in1.in1.handled = none := by simp [calm]
      have nz : (s.heap.push (emptyS w)).objs.size = s.heap.objs.size + 1 := Heap.size_push ..
      have apart : p ≠ (s.heap.push (emptyS w)).objs.size := by rw [nz]; exact Nat.ne_of_lt (Nat.lt_succ_of_lt below)
      have out : s.heap.objs.size ∉ [(s.heap.push (emptyS w)).objs.size, p] := fun hm => by
        rcases List.mem_cons.mp hm with h | h
        · rw [nz] at h
          exact absurd h (Nat.ne_of_lt (Nat.lt_succ_self _))
        · exact absurd (List.mem_singleton.mp h) (Nat.ne_of_gt below)
      have each : ∀ (i : Nat) (v : Value), us[i]? = some v → ∃ k t, zs[i]? = some k ∧ v = .int k t := fun i v hv => by
        have hi : i < zs.length := by have := (Array.getElem?_eq_some_iff.mp hv).1; omega
        obtain ⟨t, e⟩ := PyProof.Rows.IntsAre.int_at areI i v (by rw [Array.getElem?_toList]; exact hv)
        refine ⟨zs[i], t, List.getElem?_eq_getElem hi, ?_⟩
        rw [e, List.getD_eq_getElem?_getD, List.getElem?_eq_getElem hi]
        rfl
      refine set_update_ints ((Walks.list calm3 _ p apart us).toS) s.heap.objs.size out zs size small each (us.size - 0) 0 _ (by omega) (Nat.zero_le _) ⟨⟨_, Heap.get?_push_size _ rfl, rfl, rfl⟩, (isL2.push _)⟩ ⟨0, Nat.le_refl 0, setR_new_at (Heap.get?_push_of_some _ got)⟩ ?_
      rintro ⟨g, gg, dr, tk, os⟩ c mv hc hS
      obtain rfl : gg = s.gens := mv.gens
      obtain rfl : dr = s.drawn := mv.drawn
      obtain rfl : os = s.os := mv.os
      refine wpAny_pure ?_
      show wpAny (model P w) _ (ret Value.none) _ _ _
      refine wpAny_pure ⟨rfl, g, tk, c, rfl, hS, by omega, fun b o e => mv.heap b o (fun hm => ?_) (Heap.get?_push_of_some _ (Heap.get?_push_of_some _ e))⟩
      have bl : b < s.heap.objs.size := Heap.lt_size e
      rcases List.mem_cons.mp hm with h | h
      · exact absurd h (Nat.ne_of_lt bl)
      · have h2 := List.mem_singleton.mp h
        rw [nz] at h2
        exact absurd h2 (Nat.ne_of_lt (Nat.lt_succ_of_lt bl))
    · match r2, hr2 with
      | .error e, hr2 => exact hr2
      | .ok (.ret r), ⟨e1, g, tk, c, e2, hS, hc, keep⟩ =>
        subst e1 e2
        repeat (any_goals first | assumption | wp_step)
        exact fin _ _ _ hS hc keep
end
/-- sorted(set(xs)): each once, ascending, a new list -/
def tSortSet (K : PySem.W.Frag) (ta : TE) : TE := fun σ H Q => ta σ H fun x H1 => ∃ (l : Addr) (ns : List Int), x = V.ref l ∧ SqL K H1 l (ns.map V.int) ∧ ns.length < 60 ∧
  ∀ (zs : List Int) (p : Addr), zs.Pairwise (· < ·) → (∀ k, k ∈ zs ↔ k ∈ ns) → H1 p = none → Q (.ref p) (L2.upd H1 p (.lst (zs.map V.int)))
theorem pe_sortSet {X : Cx} {a : Expr} {ta : TE} {p p2 q pos : Pos} (hg : Gl X "sorted") (hm : X.mg "sorted" = none) (hg2 : Gl X "set") (hm2 : X.mg "set" = none) (ha : PE X a ta) (hc : X.calm = true := by rfl)
    (na : starEach [a] X.env = (false, eval a X.env) :: starEach [] X.env := by rfl) : PE X (.Call (.Name "sorted" p) [.Call (.Name "set" p2) [a] [] q] [] pos) (tSortSet X.K ta) := by
  refine ⟨fun pins s σ H Q I h => ?_⟩
  refine Call_ (ld_blt I hg hm (show bootBuiltins "sorted" = some (.builtin "sorted") by decide +kernel) ?_)
  refine PyProof.Rows.callWith_builtin1 (PyProof.Rows.args_cons ?_ rfl) rfl rfl
  refine Call_ (ld_blt I hg2 hm2 PyProof.Rows.boot_set ?_)
  refine PyProof.Rows.callWith_type1 (PyProof.Rows.args_cons (thn (ha.run pins s σ H _ I h) fun v s1 ⟨x, H1, I1, r1, q1⟩ => PyProof.Rows.args_nil ?_) na) na rfl
  obtain ⟨l, ns, rfl, hq, hl, q1⟩ := q1
  cases r1
  obtain ⟨its, r, pl, hz⟩ := I1.list hq
  refine set_of_list ns (I1.ok.hd hc) pl.isList (by simpa using r.ints) (by unfold scanBound; omega) fun g tk c hS hc9 keep => ?_
  refine PyProof.Rows.args_nil ?_
  have I2 : Inv X pins σ H1 { s1 with heap := g, toks := tk } := I1.kept keep
  refine sorted_set hS (I2.ok.hd hc) (by omega) fun s' b out n zs k gg o hb hgt hi hs hmem hlen => ?_
  have free : H1 b = none := I2.hok.fresh hb
  have hlen2 : (zs.map V.int).length ≤ sizeLine := by rw [List.length_map, hlen]; exact Nat.le_of_lt (Br.lt_line (by omega))
  have J : Inv X pins σ (L2.upd H1 b (.lst (zs.map V.int))) { { s1 with heap := g, toks := tk } with heap := s'.heap, gens := s'.gens, drawn := s'.drawn, toks := s'.toks } :=
    I2.call (ch := []) (Un.laid k hb free) (I2.hok.laid k hb ⟨hlen2, out.toList, n, vals_of_ints hi, hgt⟩) (by rw [gg]; exact I2.bare) (fun _ z => nomatch z)
  have e : s' = { { s1 with heap := g, toks := tk } with heap := s'.heap, gens := s'.gens, drawn := s'.drawn, toks := s'.toks } := by
    cases s'
    cases o
    rfl
  rw [e]
  exact ⟨.ref b, _, J, rfl, q1 zs b hs (fun k => by rw [hmem k]; exact decide_eq_true_iff) free⟩
end Br

/-! ### len(set(xs)), any ints -/
namespace Br
open PySem PySem.Spec PyProof.Rows L2
theorem nodup_le : ∀ {ks ns : List Int}, ks.Nodup → (∀ k, k ∈ ks → k ∈ ns) → ks.length ≤ ns.length
  | [], _, _, _ => Nat.zero_le _
  | k :: ks, ns, hn, hs => by
    rw [List.nodup_cons] at hn
    have hk := hs k List.mem_cons_self
    have h := nodup_le (ns := ns.erase k) hn.2 fun x hx => by
      have hx2 := hs x (List.mem_cons_of_mem _ hx)
      exact (List.mem_erase_of_ne (fun e => hn.1 (by rw [← e]; exact hx))).mpr hx2
    rw [List.length_erase_of_mem hk] at h
    have := List.length_pos_of_mem hk
    rw [List.length_cons]
    omega
theorem dup_at : ∀ {ns : List Int}, ¬ ns.Nodup → ∃ x, x ∈ ns ∧ x ∈ ns.erase x
  | [], h => absurd List.nodup_nil h
  | x :: r, h => by
    by_cases hx : x ∈ r
    · exact ⟨x, List.mem_cons_self, by rw [List.erase_cons_head]; exact hx⟩
    · have hr : ¬ r.Nodup := fun hr => h (List.nodup_cons.mpr ⟨hx, hr⟩)
      obtain ⟨y, h1, h2⟩ := dup_at hr
      have hne : x ≠ y := fun e => hx (by rw [e]; exact h1)
      refine ⟨y, List.mem_cons_of_mem _ h1, ?_⟩
      rw [List.erase_cons_tail (by simpa using hne)]
      exact List.mem_cons_of_mem _ h2
theorem card_iff {ks ns : List Int} (hn : ks.Nodup) (h : ∀ k, k ∈ ks ↔ k ∈ ns) : (ks.length = ns.length ↔ ns.Nodup) ∧ ks.length ≤ ns.length := by
  have hle := nodup_le hn fun k hk => (h k).mp hk
  refine ⟨⟨fun e => ?_, fun hs => ?_⟩, hle⟩
  · by_cases hd : ns.Nodup
    · exact hd
    · exfalso
      obtain ⟨x, h1, h2⟩ := dup_at hd
      have := nodup_le (ns := ns.erase x) hn fun k hk => by
        by_cases e : k = x
        · rw [e]; exact h2
        · exact (List.mem_erase_of_ne e).mpr ((h k).mp hk)
      rw [List.length_erase_of_mem h1] at this
      have := List.length_pos_of_mem h1
      omega
  · have := nodup_le hs fun k hk => (h k).mpr hk
    omega
theorem step_nodup {ks : List Int} {k : Int} (h : ks.Nodup) : (step_dedup ks k).Nodup ∧ ∀ x, x ∈ step_dedup ks k ↔ x ∈ ks ∨ x = k := by
  unfold step_dedup
  split
  · rename_i hb
    obtain ⟨y, hy, e⟩ := List.any_eq_true.mp hb
    have : y = k := by simpa using e
    subst this
    refine ⟨h, fun x => ⟨.inl, fun z => z.elim id fun e => by rw [e]; exact hy⟩⟩
  · rename_i hb
    have hk : k ∉ ks := fun hk => hb (List.any_eq_true.mpr ⟨k, hk, by simp⟩)
    refine ⟨List.nodup_append.mpr ⟨h, by simp, fun a ha b hb e => hk (by rw [← List.mem_singleton.mp hb, ← e]; exact ha)⟩, fun x => by simp⟩
theorem firstMet_spec {ns : List Int} : ∀ i, i ≤ ns.length → (firstMet (fun i => ns.getD i 0) i).Nodup ∧ ∀ x, x ∈ firstMet (fun i => ns.getD i 0) i ↔ x ∈ ns.take i
  | 0, _ => ⟨List.nodup_nil, fun x => by show x ∈ [] ↔ x ∈ ns.take 0; simp⟩
  | i + 1, hi => by
    obtain ⟨h1, h2⟩ := firstMet_spec (ns := ns) i (Nat.le_of_lt hi)
    obtain ⟨k1, k2⟩ := step_nodup (k := ns.getD i 0) h1
    rw [firstMet_succ]
    refine ⟨k1, fun x => ?_⟩
    have e : ns.getD i 0 = ns[i] := by rw [List.getD_eq_getElem?_getD, List.getElem?_eq_getElem hi]; rfl
    have e2 : ns.take (i + 1) = ns.take i ++ [ns[i]] := by rw [List.take_add_one, List.getElem?_eq_getElem hi]; rfl
    rw [k2, h2, e, e2, List.mem_append, List.mem_singleton]
def tLenSet (K : PySem.W.Frag) (ta : TE) : TE := fun σ H Q => ta σ H fun x H1 => ∃ (l : Addr) (ns : List Int), x = V.ref l ∧ (SqL K H1 l (ns.map V.int) ∨ SqT K H1 l (ns.map V.int)) ∧ ns.length ≤ 4000 ∧ ∀ c : Nat, (c = ns.length ↔ ns.Nodup) → c ≤ ns.length → Q (.int (c : Nat)) H1
theorem pe_lenSetA {X : Cx} {a : Expr} {ta : TE} {p p2 q pos : Pos} (hg : Gl X "len") (hm : X.mg "len" = none) (hg2 : Gl X "set") (hm2 : X.mg "set" = none) (ha : PE X a ta) (hc : X.calm = true := by rfl)
    (na : starEach [a] X.env = (false, eval a X.env) :: starEach [] X.env := by rfl) : PE X (.Call (.Name "len" p) [.Call (.Name "set" p2) [a] [] q] [] pos) (tLenSet X.K ta) := by
  refine ⟨fun pins s σ H Q I h => ?_⟩
  refine Call_ (ld_blt I hg hm PySem.boot_len ?_)
  refine PyProof.Rows.callWith_builtin1 (PyProof.Rows.args_cons ?_ rfl) rfl rfl
  refine Call_ (ld_blt I hg2 hm2 PyProof.Rows.boot_set ?_)
  refine PyProof.Rows.callWith_type1 (PyProof.Rows.args_cons (thn (ha.run pins s σ H _ I h) fun v s1 ⟨x, H1, I1, r1, q1⟩ => PyProof.Rows.args_nil ?_) na) na rfl
  obtain ⟨l, ns, rfl, hq, hl, q1⟩ := q1
  cases r1
  rcases hq with hq | hq
  · obtain ⟨its, r, pl, hz⟩ := I1.list hq
    have hlen : its.toArray.size = ns.length := by rw [List.size_toArray, ← r.length, List.length_map]
    refine call_set_list (I1.ok.hd hc) pl.isList (ns := ns) (by simpa using r.ints) (by rw [hlen]; unfold scanBound; omega) fun h' tk hS hk => ?_
    rw [hlen] at hS
    obtain ⟨f1, f2⟩ := firstMet_spec (ns := ns) ns.length (Nat.le_refl _)
    rw [List.take_length] at f2
    obtain ⟨c1, c2⟩ := card_iff f1 f2
    refine PyProof.Rows.args_nil ?_
    obtain ⟨o, es, ep, t, ho, hex, hd, _, _, _, hf, hn⟩ := hS
    have I2 : Inv X pins σ H1 { s1 with heap := h', toks := tk } := I1.kept fun b o e => hk b o (Heap.lt_size e) e
    refine call_len_set ho hex hd hf (by rw [hn]; omega) ⟨.int ((es.size : Nat) : Int), H1, I2.tok _, ⟨_, rfl⟩, by rw [hn]; exact q1 _ c1 c2⟩
  · obtain ⟨its, r, pl, hz⟩ := I1.tuple hq
    refine call_set_tupI ns (I1.ok.hd hc) pl (by simpa using r.ints) (by unfold scanBound; omega) fun h' tk c hS _ hk => ?_
    refine PyProof.Rows.args_nil ?_
    obtain ⟨o, es, ep, t, ho, hex, hd, _, hnd, hS, _, hf, hn, _⟩ := hS
    obtain ⟨c1, c2⟩ := card_iff (ns := ns) hnd fun k => by rw [← hS k]; simp
    have hsz : (es.toList.map keyOf).length = c := by rw [List.length_map, Array.length_toList, hn]
    rw [hsz] at c1 c2
    have I2 : Inv X pins σ H1 { s1 with heap := h', toks := tk } := I1.kept hk
    refine call_len_set ho hex hd hf (by rw [hn]; omega) ⟨.int ((es.size : Nat) : Int), H1, I2.tok _, ⟨_, rfl⟩, by rw [hn]; exact q1 c c1 c2⟩
end Br

/-! ### len(set(xs) & set(ys)) -/
namespace Br
open PySem PySem.Spec PyProof.Rows L2
theorem entry_set_and : entryFor table "set.__and__" = some Builtin.«frozenset.__and__» := entryFor_alias (id' := "frozenset.__and__") (by kernel_rfl) rfl (by decide +kernel) (by kernel_rfl)
open PySem.Builtin.Frozenset in
theorem and_body (args : Args) : Builtin.«frozenset.__and__» args = (do
    let (self, other) ← slot1 "__and__" args
    if !(← isAnySet self <&&> isAnySet other) then rule s!"frozenset.{"__and__"}.declined"; return ← ret .notImplemented
    ret (← intersection s!"frozenset.{"__and__"}" (← addrOf self) other)) := rfl
section
variable {P : Program} {w : World} {A : Around} {E : Value → Shared → Prop} {s : Shared}
theorem setWalk_ints {a : Addr} {o : Obj} {es : Array (Int × Value)} {ep : Nat} {t : SetTable} {Q : Array (Int × Value) → Shared → Prop}
    (ho : s.heap.get? a = some o) (hd : o.data = .set es ep t) (hf : t.fits es.size = true) (hl : w.params.followText "set-order" = true ∨ t.led = true)
    (hb : (w.params.followText "set-order" || (t.led && t.plain) || decide (es.size ≤ 1)) = true) (h : ∀ xs : Array (Int × Value), xs.toList.Perm es.toList → Q xs s) :
    wpAny (model P w) A (setWalk a) Q E s := by
  unfold setWalk
  refine wpAny_bind (wpAny_setState_of ho hd hf ?_)
  dsimp only
  refine wpAny_bind (wpAny_byText ?_)
  cases hbt : w.params.followText "set-order" with
  | true =>
    refine wp_if_pos rfl ?_
    exact wpAny_bind (wpAny_askSetting (wpAny_pure (h _ (pick_perm _ es))))
  | false =>
    have hl : t.led = true := by
      rcases hl with e | e
      · rw [hbt] at e; cases e
      · exact e
    rw [hbt] at hb
    have hdr : (!t.plain && decide (es.size > 1)) = false := by
      cases hp : t.plain with
      | true => rfl
      | false =>
        rw [hp, Bool.and_false] at hb
        have : es.size ≤ 1 := of_decide_eq_true hb
        show decide (es.size > 1) = false
        exact decide_eq_false (by omega)
    refine wp_if_neg (by decide) ?_
    try refine wpAny_bind (wpAny_pure ?_)
    refine wp_if_neg (by show ¬ ((!t.plain && decide (es.size > 1)) = true); rw [hdr]; exact Bool.false_ne_true) ?_
    try refine wpAny_bind (wpAny_pure ?_)
    refine wpAny_bind (wpAny_of_eq (a := ()) ?_ ?_)
    · show (if (!t.led && decide (es.size > 1)) = true then unsupported "set:maker-not-led" else pure ()) = pure ()
      rw [hl] <;> rfl
    · exact wpAny_pure (h _ (List.Perm.refl _))
theorem quiet_ints {o : Obj} {a : Addr} {es : Array (Int × Value)} {ep : Nat} {t : SetTable} {Q : List (Int × Value) → Shared → Prop} (g : ∀ e ∈ es.toList, GoodE e) (h : True) : True := trivial
/-- the walk over a set of ints: its members in some order; a set that is filled may lose a mark -/
theorem walk_ints {a r : Addr} {o : Obj} {es : Array (Int × Value)} {ep : Nat} {t : SetTable} {others : List Addr} {Sr : Int → Bool} {nr : Nat} {Q : Array (Int × Value) → Shared → Prop}
    (ho : s.heap.get? a = some o) (hx : o.ExactSet) (hd : o.data = .set es ep t) (g : ∀ e ∈ es.toList, GoodE e) (hf : t.fits es.size = true) (hl : w.params.followText "set-order" = true ∨ t.led = true)
    (hoth : ∀ b, b ∈ a :: others → ∃ S n, SetR w s.heap b S n) (hr : SetR w s.heap r Sr nr)
    (h : ∀ (xs : Array (Int × Value)) (h' : Heap), xs.toList.Perm es.toList → Heap.SameBut r s.heap h' → SetR w h' r Sr nr → Q xs { s with heap := h' }) :
    wpAny (model P w) A (setWalkUnseen a others (some r)) Q E s := by
  have quiet : ∀ {R : Bool → Shared → Prop}, R true s → wpAny (model P w) A (setsQuiet (a :: others)) R E s := fun {R} hR => by
    unfold setsQuiet
    refine wpAny_bind (wpAny_forIn_list _ (fun rest b s' => s' = s ∧ b = ⟨none, ⟨⟩⟩ ∧ ∀ c, c ∈ rest → ∃ S n, SetR w s.heap c S n) _ ?_ ?_ _ _ ⟨rfl, rfl, hoth⟩)
    · rintro c rest b s' ⟨rfl, rfl, hc⟩
      obtain ⟨S, n, oc, esc, epc, tc, hoc, hxc, hdc, gc, _, _, _, hfc, _⟩ := hc c List.mem_cons_self
      dsimp only
      refine wpAny_bind (wpAny_setEntries_of hoc hdc hfc ?_)
      refine wpAny_bind (MeetsSeq2.wpAny_forIn_array _ (fun rest2 b2 s2 => s2 = s' ∧ b2 = ⟨none, ⟨⟩⟩ ∧ ∀ e, e ∈ rest2 → GoodE e) _ ?_ ?_ _ _ ⟨rfl, rfl, gc⟩)
      · rintro x rest2 b2 s2 ⟨rfl, rfl, hg⟩
        obtain ⟨k, tk, e1, _⟩ := hg x List.mem_cons_self
        rw [e1]
        exact wpAny_pure ⟨rfl, rfl, fun e he => hg e (List.mem_cons_of_mem _ he)⟩
      · rintro b2 s2 ⟨rfl, rfl, _⟩
        exact wpAny_pure ⟨rfl, rfl, fun e he => hc e (List.mem_cons_of_mem _ he)⟩
    · rintro b s' ⟨rfl, rfl, _⟩
      exact wpAny_pure hR
  unfold setWalkUnseen
  refine wpAny_bind (wpAny_setState_of ho hd hf ?_)
  dsimp only
  refine wpAny_bind (wpAny_byText ?_)
  by_cases hb : (w.params.followText "set-order" || (t.led && t.plain) || decide (es.size ≤ 1)) = true
  · refine wp_if_pos hb ?_
    exact setWalk_ints ho hd hf hl hb fun xs hp => h xs s.heap hp (Heap.SameBut.refl _ _) hr
  · refine wp_if_neg hb ?_
    refine wpAny_bind (quiet ?_)
    refine wp_if_neg (by decide) ?_
    refine wpAny_bind (wpAny_rule ?_)
    obtain ⟨ofr, ef, epf, tf, hof, hxf, hdf, gf, ndf, mf, hbf, hff, hnf, rf, lf⟩ := hr
    refine wpAny_bind (wpAny_setState_of hof hdf hff ?_)
    dsimp only
    have same : SetR w s.heap r Sr nr := ⟨ofr, ef, epf, tf, hof, hxf, hdf, gf, ndf, mf, hbf, hff, hnf, rf, lf⟩
    split
    · have hzl : ef.size ≤ sizeLine := Nat.le_trans (Nat.le_of_lt hbf) (show scanBound ≤ sizeLine by decide)
      refine wpAny_bind (wpAny_storeSet_of hof hdf ?_ hzl)
      refine wpAny_pure (h es _ (List.Perm.refl _) (Heap.SameBut.update _ r _) ?_)
      refine ⟨_, ef, _, _, store_at hof hdf, hxf, rfl, gf, ndf, mf, hbf, hff, hnf, rf, ?_⟩
      cases hbt : w.params.followText "set-order" with
      | true => exact .inl rfl
      | false =>
        rw [hbt] at hl lf
        have a1 : t.led = true := hl.resolve_left (by decide)
        have a2 : tf.led = true := lf.resolve_left (by decide)
        exact .inr (by show (tf.led && t.led) = true; rw [a1, a2]; rfl)
    · exact wpAny_pure (h es s.heap (List.Perm.refl _) (Heap.SameBut.refl _ _) same)
theorem setR_epoch {a : Addr} {S : Int → Bool} {n : Nat} (R : SetR w s.heap a S n) : ∃ ep, ∀ (s' : Shared) (Q : Nat → Shared → Prop) (A : Around), s'.heap.get? a = s.heap.get? a → Q ep s' → wpAny (model P w) A (setEpoch a) Q E s' := by
  obtain ⟨o, es, ep, t, ho, hx, hd, g, nd, m, hb, hf, hn, r, l⟩ := R
  refine ⟨ep, fun s' Q A e q => ?_⟩
  unfold setEpoch
  exact wpAny_bind (wpAny_setState_of (by rw [e]; exact ho) hd hf (wpAny_pure q))
theorem dec_snoc {xs : List Int} {k j : Int} : decide (j ∈ xs ++ [k]) = (decide (j ∈ xs) || decide (j = k)) := by
  rw [Bool.eq_iff_iff]
  simp
theorem any_set {v : Value} {Q : Bool → Shared → Prop} (t : s.TypeIs v "set") (h : Q true s) : wpAny (model P w) A (Builtin.Frozenset.isAnySet v) Q E s := by
  unfold Builtin.Frozenset.isAnySet
  exact wpAny_bind (wpAny_isInstance t F.sub_set_set (wpAny_pure h))
theorem size_set {a : Addr} {S : Int → Bool} {n : Nat} {Q : Nat → Shared → Prop} (R : SetR w s.heap a S n) (h : Q n s) : wpAny (model P w) A (Builtin.Frozenset.sizeOf a) Q E s := by
  obtain ⟨o, es, ep, t, ho, hx, hd, g, nd, m, hb, hf, hn, r, l⟩ := R
  subst hn
  unfold Builtin.Frozenset.sizeOf
  exact wpAny_bind (wpAny_setEntries_of ho hd hf (wpAny_pure h))
theorem new_set {Q : Value → Shared → Prop} (h : Q (.ref s.heap.objs.size) { s with heap := s.heap.push (emptyS w) }) : wpAny (model P w) A (newSet (.type "set")) Q E s := by
  unfold newSet
  refine wpAny_bind (wpAny_byText ?_)
  dsimp only
  simp only [newObj]
  exact wpAny_bind (wpAny_alloc (wpAny_pure h))
theorem intersection_ints {id : String} {a b : Addr} {Sa Sb : Int → Bool} {na nb : Nat} {Q : Value → Shared → Prop} (ha : SetR w s.heap a Sa na) (hb : SetR w s.heap b Sb nb) (hab : a ≠ b)
    (h : ∀ (h' : Heap) (n : Nat), SetR w h' s.heap.objs.size (fun k => Sa k && Sb k) n → (∀ c o, s.heap.get? c = some o → h'.get? c = some o) → Q (.ref s.heap.objs.size) { s with heap := h' }) :
    wpAny (model P w) A (Builtin.Frozenset.intersection id a (.ref b)) Q E s := by
  unfold Builtin.Frozenset.intersection
  refine wp_if_neg (by simp [hab.symm]) ?_
  unfold Builtin.Frozenset.baseOf
  have ta : s.TypeIs (.ref a) "set" := (SetR.setOf (P := P) ha).typeIs
  refine wpAny_bind (wpAny_bind (wpAny_isInstance ta F.sub_set_set (wpAny_pure ?_)))
  refine wpAny_bind (new_set ?_)
  have k0 : ∀ c o, s.heap.get? c = some o → (s.heap.push (emptyS w)).get? c = some o := fun c o e => Heap.get?_push_of_some _ e
  have hr0 : SetR w (s.heap.push (emptyS w)) s.heap.objs.size (fun _ => false) 0 := setR_fresh w
  have ha0 : SetR w (s.heap.push (emptyS w)) a Sa na := ha.at fun o => k0 a o
  have hb0 : SetR w (s.heap.push (emptyS w)) b Sb nb := hb.at fun o => k0 b o
  have ra : a ≠ s.heap.objs.size := Nat.ne_of_lt ha.lt
  have rb : b ≠ s.heap.objs.size := Nat.ne_of_lt hb.lt
  have hlt : ∀ c o, s.heap.get? c = some o → c ≠ s.heap.objs.size := fun c o e => Nat.ne_of_lt (Heap.lt_size e)
  show wpAny (model P w) A _ Q E { s with heap := s.heap.push (emptyS w) }
  have fin : ∀ {wk ak : Addr} {Sw Sk : Int → Bool} {nw nk : Nat}, SetR w (s.heap.push (emptyS w)) wk Sw nw → SetR w (s.heap.push (emptyS w)) ak Sk nk → wk ≠ s.heap.objs.size → ak ≠ s.heap.objs.size → (∀ k, (Sw k && Sk k) = (Sa k && Sb k)) → ∀ R : PUnit → Shared → Prop,
      (∀ (h' : Heap) (n : Nat), SetR w h' s.heap.objs.size (fun k => Sa k && Sb k) n → (∀ c o, s.heap.get? c = some o → h'.get? c = some o) → R ⟨⟩ { s with heap := h' }) →
      wpAny (model P w) A (do
        let was ← setEpoch wk
        let __do_lift ← setWalkUnseen wk [ak, s.heap.objs.size] (some s.heap.objs.size)
        let _r ← (forIn __do_lift PUnit.unit fun x __s =>
          match x with
          | (h, x) => do
            holding [x] do
              let __do_lift ← setFind ak x h
              if __do_lift.isSome = true then do
                let _ ← setAddHashed s.heap.objs.size x h
                pure ()
              else pure ()
            Builtin.Frozenset.unchanged id wk was
            pure (ForInStep.yield PUnit.unit))
        pure PUnit.unit) R E { s with heap := s.heap.push (emptyS w) } := fun {wk ak Sw Sk nw nk} hw hk wr kr hS R q => by
    obtain ⟨ep, hep⟩ := setR_epoch (P := P) (E := E) (s := { s with heap := s.heap.push (emptyS w) }) hw
    refine wpAny_bind (hep _ _ _ rfl ?_)
    have hw0 := hw
    obtain ⟨o, es, epw, t, ho, hx, hd, g, nd, m, hbd, hf, hn, rr, l⟩ := hw0
    refine wpAny_bind (walk_ints (s := { s with heap := s.heap.push (emptyS w) }) ho hx hd g hf l (fun c hc => ?_) hr0 fun xs h1 hp sb1 hr1 => ?_)
    · simp only [List.mem_cons, List.not_mem_nil, or_false] at hc
      rcases hc with rfl | rfl | rfl
      · exact ⟨_, _, hw⟩
      · exact ⟨_, _, hk⟩
      · exact ⟨_, _, hr0⟩
    have hxs : xs.toList.length = es.size := by rw [hp.length_eq, Array.length_toList]
    refine wpAny_bind (MeetsSeq2.wpAny_forIn_array _ (fun rest u s' => ∃ (done : List (Int × Value)) (h' : Heap) (n : Nat), done ++ rest = xs.toList ∧ s' = { s with heap := h' } ∧ Heap.SameBut s.heap.objs.size (s.heap.push (emptyS w)) h' ∧ n ≤ done.length ∧ SetR w h' s.heap.objs.size (fun k => decide (k ∈ done.map keyOf) && Sk k) n) _ ?_ ?_ _ _ ⟨[], h1, 0, rfl, rfl, sb1, Nat.le_refl _, hr1.congr fun k => by simp⟩)
    · rintro ⟨hh, x⟩ rest u s' ⟨done, h', n, he, rfl, sb, hnl, hR⟩
      obtain ⟨k, tk, e1, e2⟩ := g (hh, x) (hp.mem_iff.mp (by rw [← he]; exact List.mem_append_right _ List.mem_cons_self))
      have e1 : x = .int k tk := e1
      have e2 : hh = hashInt k := e2
      subst e1 e2
      have hk' : SetR w h' ak Sk nk := hk.at fun o e => (sb.2 ak kr).trans e
      have hke : keyOf (hashInt k, Value.int k tk) = k := rfl
      have room : n + 1 < scanBound := by
        have := congrArg List.length he
        rw [List.length_append, List.length_cons, hxs] at this
        omega
      have next : ∀ (h2 : Heap) (n2 : Nat), Heap.SameBut s.heap.objs.size h' h2 → n2 ≤ n + 1 → SetR w h2 s.heap.objs.size (fun j => decide (j ∈ (done ++ [(hashInt k, Value.int k tk)]).map keyOf) && Sk j) n2 → ∀ Post : ForInStep PUnit → Shared → Prop,
          ((∃ (done : List (Int × Value)) (h' : Heap) (n : Nat), done ++ rest = xs.toList ∧ ({ s with heap := h2 } : Shared) = { s with heap := h' } ∧ Heap.SameBut s.heap.objs.size (s.heap.push (emptyS w)) h' ∧ n ≤ done.length ∧ SetR w h' s.heap.objs.size (fun k => decide (k ∈ done.map keyOf) && Sk k) n) → Post (.yield ⟨⟩) { s with heap := h2 }) →
          wpAny (model P w) A (do
            Builtin.Frozenset.unchanged id wk ep
            pure (ForInStep.yield PUnit.unit)) Post E { s with heap := h2 } := fun h2 n2 sb2 hn2 hR2 Post hP => by
        unfold Builtin.Frozenset.unchanged
        refine wpAny_bind (wpAny_bind (hep _ _ _ (((sb.trans sb2).2 wk wr)) ?_))
        refine wp_if_neg (by simp) ?_
        exact wpAny_pure (wpAny_pure (hP ⟨done ++ [(hashInt k, Value.int k tk)], h2, n2, by rw [← he, List.append_assoc]; rfl, rfl, sb.trans sb2, by rw [List.length_append]; show n2 ≤ done.length + 1; omega, hR2⟩))
      refine wpAny_bind (wpAny_holding ?_)
      refine wpAny_bind (wpAny_setFind_of (knd := intKind P w) (k := k) (intKind_is P w k tk) rfl hk'.setOf fun r hr => ?_)
      cases hSk : Sk k with
      | true =>
        refine wp_if_pos (by rw [hr, hSk]) ?_
        refine wpAny_bind (setR_add_hashed (k := k) (tk := tk) hR room fun h2 sb2 hR2 => wpAny_pure ?_)
        refine next h2 _ sb2 (by split <;> omega) (hR2.congr fun j => ?_) _ (fun z => z)
        rw [List.map_append]
        show (decide (j ∈ done.map keyOf ++ [k]) && Sk j) = _
        rw [dec_snoc]
        by_cases hj : j = k
        · subst hj
          simp [hSk]
        · simp [hj]
      | false =>
        refine wp_if_neg (by rw [hr, hSk]; decide) ?_
        refine wpAny_pure (next h' n (Heap.SameBut.refl _ _) (Nat.le_succ _) (hR.congr fun j => ?_) _ (fun z => z))
        rw [List.map_append]
        show (decide (j ∈ done.map keyOf ++ [k]) && Sk j) = _
        rw [dec_snoc]
        by_cases hj : j = k
        · subst hj
          simp [hSk]
        · simp [hj]
    · rintro u s' ⟨done, h', n, he, rfl, sb, hnl, hR⟩
      refine wpAny_pure (q h' n (hR.congr fun k => ?_) fun c o e => (sb.2 c (hlt c o e)).trans (k0 c o e))
      rw [← hS k]
      rw [List.append_nil] at he
      have hm : k ∈ done.map keyOf ↔ Sw k = true := by
        rw [he]
        exact ((hp.map keyOf).mem_iff).trans (m k).symm
      have : decide (k ∈ done.map keyOf) = Sw k := by
        rw [Bool.eq_iff_iff, decide_eq_true_iff]
        exact hm
      rw [this]
  refine wpAny_bind (wpAny_pure ?_)
  refine wpAny_bind (wpAny_holding ?_)
  refine wpAny_bind (any_set (SetR.setOf (P := P) hb0).typeIs ?_)
  refine wp_if_pos rfl ?_
  refine wpAny_bind (wpAny_pure ?_)
  refine wpAny_bind (size_set hb0 ?_)
  refine wpAny_bind (size_set ha0 ?_)
  by_cases hgt : nb > na
  · rw [if_pos hgt]
    exact fin ha0 hb0 ra rb (fun k => rfl) _ fun h' n hR hk => wpAny_pure (h h' n hR hk)
  · rw [if_neg hgt]
    exact fin hb0 ha0 rb ra (fun k => Bool.and_comm _ _) _ fun h' n hR hk => wpAny_pure (h h' n hR hk)
theorem call_set_and {a b : Addr} {Sa Sb : Int → Bool} {na nb : Nat} {Q : Value → Shared → Prop} (ha : SetR w s.heap a Sa na) (hb : SetR w s.heap b Sb nb) (hab : a ≠ b)
    (h : ∀ (h' : Heap) (n : Nat), SetR w h' s.heap.objs.size (fun k => Sa k && Sb k) n → (∀ c o, s.heap.get? c = some o → h'.get? c = some o) → Q (.ref s.heap.objs.size) { s with heap := h' }) :
    wpAny (model P w) A (binaryOp .BitAnd (.ref a) (.ref b)) Q E s := by
  have ta : s.TypeIs (.ref a) "set" := (SetR.setOf (P := P) ha).typeIs
  have tb : s.TypeIs (.ref b) "set" := (SetR.setOf (P := P) hb).typeIs
  refine wpAny_binaryOp_same ta tb F.fills_set_and F.slot_set_and (wpAny_call_entry F.slot_set_and ta entry_set_and ?_ (F.args_set_and_2 _ _))
  rw [and_body]
  unfold Builtin.Frozenset.slot1
  refine wpAny_bind (wpAny_bind (wpAny_of_eq (a := (Value.ref a, [Value.ref b])) rfl (wpAny_pure ?_)))
  refine wpAny_bind (m := Builtin.Frozenset.isAnySet (.ref a) <&&> Builtin.Frozenset.isAnySet (.ref b)) (wpAny_bind (any_set ta (any_set tb ?_)))
  refine wp_if_neg (by decide) ?_
  refine wpAny_bind (wpAny_pure ?_)
  refine wpAny_bind (intersection_ints ha hb hab fun h' n hR hk => ?_)
  exact wpAny_pure ⟨_, rfl, (by intro e; cases e), h h' n hR hk⟩
end
/-- len(set(xs) & set(ys)) -/
def tLenAnd (K : PySem.W.Frag) (ta tb : TE) : TE := fun σ H Q => ta σ H fun x H1 => ∃ (l : Addr) (ns : List Int), x = V.ref l ∧ SqL K H1 l (ns.map V.int) ∧ ns.length ≤ 1000 ∧ ∀ (p : Addr) (o : HO), H1 p = none → tb σ (L2.upd H1 p o) fun y H2 =>
  H2 p = some o ∧ ∃ (m : Addr) (ms : List Int), y = V.ref m ∧ SqL K H2 m (ms.map V.int) ∧ ms.length ≤ 1000 ∧ ∀ c : Nat, (0 < c ↔ ∃ k, k ∈ ns ∧ k ∈ ms) → Q (.int (c : Nat)) H2
theorem pe_lenAnd {X : Cx} {a b : Expr} {ta tb : TE} {p p2 p3 q q2 q3 pos : Pos} (hg : Gl X "len") (hm : X.mg "len" = none) (hg2 : Gl X "set") (hm2 : X.mg "set" = none) (ha : PE X a ta) (hb : PE X b tb) (hc : X.calm = true := by rfl)
    (na : starEach [a] X.env = (false, eval a X.env) :: starEach [] X.env := by rfl) (nb : starEach [b] X.env = (false, eval b X.env) :: starEach [] X.env := by rfl) :
    PE X (.Call (.Name "len" p) [.BinOp (.Call (.Name "set" p2) [a] [] q) .BitAnd (.Call (.Name "set" p3) [b] [] q2) q3] [] pos) (tLenAnd X.K ta tb) := by
  refine ⟨fun pins s σ H Q I h => ?_⟩
  refine Call_ (ld_blt I hg hm PySem.boot_len ?_)
  refine PyProof.Rows.callWith_builtin1 (PyProof.Rows.args_cons ?_ rfl) rfl rfl
  refine wpAny_BinOp ?_
  refine Call_ (ld_blt I hg2 hm2 PyProof.Rows.boot_set ?_)
  refine PyProof.Rows.callWith_type1 (PyProof.Rows.args_cons (thn (ha.run pins s σ H _ I h) fun v s1 ⟨x, H1, I1, r1, q1⟩ => PyProof.Rows.args_nil ?_) na) na rfl
  obtain ⟨l, ns, rfl, hq, hl, q1⟩ := q1
  cases r1
  obtain ⟨its, r, pl, hz⟩ := I1.list hq
  refine set_of_list ns (I1.ok.hd hc) pl.isList (by simpa using r.ints) (by unfold scanBound; omega) fun g tk c hS hc9 keep => ?_
  have free : H1 s1.heap.objs.size = none := I1.hok.fresh (Nat.le_refl _)
  have I2 : Inv X pins σ (L2.upd H1 s1.heap.objs.size (SetO X.w s1.heap.objs.size (fun j => decide (j ∈ ns)) c)) { s1 with heap := g, toks := tk } := I1.laid keep (Nat.le_refl _) (setO_new hS)
  refine Call_ (ld_blt I2 hg2 hm2 PyProof.Rows.boot_set ?_)
  refine PyProof.Rows.callWith_type1 (PyProof.Rows.args_cons (thn (hb.run pins _ σ _ _ I2 (q1 _ _ free)) fun v s3 ⟨y, H3, I3, r3, q3⟩ => PyProof.Rows.args_nil ?_) nb) nb rfl
  obtain ⟨hset, m, ms, rfl, hq3, hl3, q3⟩ := q3
  cases r3
  obtain ⟨its3, r3, pl3, hz3⟩ := I3.list hq3
  have hS3 := setO_get I3 hset
  refine set_of_list ms (I3.ok.hd hc) pl3.isList (by simpa using r3.ints) (by unfold scanBound; omega) fun g4 tk4 c4 hS4 hc4 keep4 => ?_
  refine call_set_and (s := { s3 with heap := g4, toks := tk4 }) (hS3.at fun o => keep4 _ o) hS4 (Nat.ne_of_lt hS3.lt) fun g5 n hS5 keep5 => ?_
  refine PyProof.Rows.args_nil ?_
  have I5 : Inv X pins σ H3 { s3 with heap := g5, toks := tk4 } := I3.kept fun b o e => keep5 b o (keep4 b o e)
  obtain ⟨o, es, ep, t, ho, hx, hd, gd, nd, mem, hbd, hf, hn, _, _⟩ := hS5
  refine call_len_set (s := { s3 with heap := g5, toks := tk4 }) ho hx hd hf (by have : scanBound = 4096 := rfl; omega) ⟨.int ((es.size : Nat) : Int), H3, I5.tok _, ⟨_, rfl⟩, q3 es.size ?_⟩
  constructor
  · intro hpos
    have hl0 : 0 < es.toList.length := by rw [Array.length_toList]; exact hpos
    have hk := (mem (keyOf (es.toList[0]))).mpr (List.mem_map.mpr ⟨_, List.getElem_mem hl0, rfl⟩)
    have hk : (decide (keyOf (es.toList[0]) ∈ ns) && decide (keyOf (es.toList[0]) ∈ ms)) = true := hk
    rw [Bool.and_eq_true, decide_eq_true_iff, decide_eq_true_iff] at hk
    exact ⟨_, hk⟩
  · rintro ⟨k, h1, h2⟩
    have hk := (mem k).mp (show (decide (k ∈ ns) && decide (k ∈ ms)) = true by rw [decide_eq_true h1, decide_eq_true h2]; rfl)
    obtain ⟨e, he, _⟩ := List.mem_map.mp hk
    have := List.length_pos_of_mem he
    rw [Array.length_toList] at this
    exact this
end Br













namespace Br
open PySem PySem.Spec PyProof.Rows L2
def topS (i : Nat) : Stmt := PySem.Challenge.pw_brimful_k51_loans_are_checked.main.body.getD i (.Pass ⟨0, 0, 0, 0⟩)
abbrev s_is_below : Stmt := topS 10
abbrev N_is_below : List Str := ["value", "bound"]
theorem sc_is_below : FnScope N_is_below ["value", "bound"] (defScope s_is_below) := ⟨rfl, rfl, rfl, by decide +kernel, rfl, by decide +kernel, by decide +kernel⟩
abbrev s_is_modulus : Stmt := topS 11
abbrev N_is_modulus : List Str := ["value"]
theorem sc_is_modulus : FnScope N_is_modulus ["value"] (defScope s_is_modulus) := ⟨rfl, rfl, rfl, by decide +kernel, rfl, by decide +kernel, by decide +kernel⟩
abbrev s_are_numbers : Stmt := topS 12
abbrev N_are_numbers : List Str := ["values", "many", "modulus", "value"]
theorem sc_are_numbers : FnScope N_are_numbers ["values", "many", "modulus"] (defScope s_are_numbers) := ⟨rfl, rfl, rfl, by decide +kernel, rfl, by decide +kernel, by decide +kernel⟩
abbrev s_is_prime : Stmt := topS 13
abbrev N_is_prime : List Str := ["n", "divisor"]
theorem sc_is_prime : FnScope N_is_prime ["n"] (defScope s_is_prime) := ⟨rfl, rfl, rfl, by decide +kernel, rfl, by decide +kernel, by decide +kernel⟩
abbrev s_inverse_of : Stmt := topS 14
abbrev N_inverse_of : List Str := ["n", "modulus", "last", "rest", "last_factor", "rest_factor", "times"]
theorem sc_inverse_of : FnScope N_inverse_of ["n", "modulus"] (defScope s_inverse_of) := ⟨rfl, rfl, rfl, by decide +kernel, rfl, by decide +kernel, by decide +kernel⟩
abbrev s_interpolate : Stmt := topS 15
abbrev N_interpolate : List Str := ["table", "prime", "x", "y", "row_shares", "column_shares", "total", "row_share", "row"]
theorem sc_interpolate : FnScope N_interpolate ["table", "prime", "x", "y"] (defScope s_interpolate) := ⟨rfl, rfl, rfl, by decide +kernel, rfl, by decide +kernel, by decide +kernel⟩
abbrev s_weighted : Stmt := topS 16
abbrev N_weighted : List Str := ["row", "shares", "share", "value"]
theorem sc_weighted : FnScope N_weighted ["row", "shares"] (defScope s_weighted) := ⟨rfl, rfl, rfl, by decide +kernel, rfl, by decide +kernel, by decide +kernel⟩
abbrev s_shares : Stmt := topS 17
abbrev N_shares : List Str := ["size", "prime", "x", "at", "top", "shares", "bottom"]
theorem sc_shares : FnScope N_shares ["size", "prime", "x"] (defScope s_shares) := ⟨rfl, rfl, rfl, by decide +kernel, rfl, by decide +kernel, by decide +kernel⟩
abbrev s_products_of_differences : Stmt := topS 18
abbrev N_products_of_differences : List Str := ["size", "prime", "factorials", "n", "bottoms", "at", "above", "sign"]
theorem sc_products_of_differences : FnScope N_products_of_differences ["size", "prime"] (defScope s_products_of_differences) := ⟨rfl, rfl, rfl, by decide +kernel, rfl, by decide +kernel, by decide +kernel⟩
abbrev s_is_step : Stmt := topS 21
abbrev N_is_step : List Str := ["step", "modulus", "cells", "inputs", "target", "coefficient", "factors", "unit", "a", "b", "sign", "table"]
theorem sc_is_step : FnScope N_is_step ["step", "modulus", "cells", "inputs"] (defScope s_is_step) := ⟨rfl, rfl, rfl, by decide +kernel, rfl, by decide +kernel, by decide +kernel⟩
abbrev s_are_factors : Stmt := topS 22
abbrev N_are_factors : List Str := ["factors", "target", "cells", "inputs", "factor"]
theorem sc_are_factors : FnScope N_are_factors ["factors", "target", "cells", "inputs"] (defScope s_are_factors) := ⟨rfl, rfl, rfl, by decide +kernel, rfl, by decide +kernel, by decide +kernel⟩
abbrev s_is_factor : Stmt := topS 23
abbrev N_is_factor : List Str := ["factor", "target", "cells", "inputs", "at"]
theorem sc_is_factor : FnScope N_is_factor ["factor", "target", "cells", "inputs"] (defScope s_is_factor) := ⟨rfl, rfl, rfl, by decide +kernel, rfl, by decide +kernel, by decide +kernel⟩
abbrev s_are_three_cells : Stmt := topS 24
abbrev N_are_three_cells : List Str := ["target", "a", "b", "cells", "cell"]
theorem sc_are_three_cells : FnScope N_are_three_cells ["target", "a", "b", "cells"] (defScope s_are_three_cells) := ⟨rfl, rfl, rfl, by decide +kernel, rfl, by decide +kernel, by decide +kernel⟩
abbrev s_is_sign : Stmt := topS 25
abbrev N_is_sign : List Str := ["sign", "modulus"]
theorem sc_is_sign : FnScope N_is_sign ["sign", "modulus"] (defScope s_is_sign) := ⟨rfl, rfl, rfl, by decide +kernel, rfl, by decide +kernel, by decide +kernel⟩
abbrev s_is_table : Stmt := topS 26
abbrev N_is_table : List Str := ["table", "modulus", "row"]
theorem sc_is_table : FnScope N_is_table ["table", "modulus"] (defScope s_is_table) := ⟨rfl, rfl, rfl, by decide +kernel, rfl, by decide +kernel, by decide +kernel⟩
abbrev s_is_row : Stmt := topS 27
abbrev N_is_row : List Str := ["row", "size", "modulus", "value"]
theorem sc_is_row : FnScope N_is_row ["row", "size", "modulus"] (defScope s_is_row) := ⟨rfl, rfl, rfl, by decide +kernel, rfl, by decide +kernel, by decide +kernel⟩
abbrev s_changes : Stmt := topS 28
abbrev N_changes : List Str := ["step", "memory", "given", "modulus", "target", "coefficient", "factors", "amount", "unit", "a", "b", "sign", "table"]
theorem sc_changes : FnScope N_changes ["step", "memory", "given", "modulus"] (defScope s_changes) := ⟨rfl, rfl, rfl, by decide +kernel, rfl, by decide +kernel, by decide +kernel⟩
abbrev s_performed : Stmt := topS 29
abbrev N_performed : List Str := ["steps", "memory", "given", "modulus", "behind", "step", "changed", "cell", "content"]
theorem sc_performed : FnScope N_performed ["steps", "memory", "given", "modulus"] (defScope s_performed) := ⟨rfl, rfl, rfl, by decide +kernel, rfl, by decide +kernel, by decide +kernel⟩
abbrev s_product_of : Stmt := topS 30
abbrev N_product_of : List Str := ["factors", "memory", "given", "modulus", "result", "place", "at", "number"]
theorem sc_product_of : FnScope N_product_of ["factors", "memory", "given", "modulus"] (defScope s_product_of) := ⟨rfl, rfl, rfl, by decide +kernel, rfl, by decide +kernel, by decide +kernel⟩
abbrev s_inverse_step : Stmt := topS 31
abbrev N_inverse_step : List Str := ["step", "modulus", "target", "coefficient", "factors", "unit", "sign", "table", "a", "b"]
theorem sc_inverse_step : FnScope N_inverse_step ["step", "modulus"] (defScope s_inverse_step) := ⟨rfl, rfl, rfl, by decide +kernel, rfl, by decide +kernel, by decide +kernel⟩
abbrev s_check_sizes : Stmt := topS 37
abbrev N_check_sizes : List Str := ["modulus", "cells", "inputs"]
theorem sc_check_sizes : FnScope N_check_sizes ["modulus", "cells", "inputs"] (defScope s_check_sizes) := ⟨rfl, rfl, rfl, by decide +kernel, rfl, by decide +kernel, by decide +kernel⟩
abbrev s_check_steps : Stmt := topS 38
abbrev N_check_steps : List Str := ["steps", "modulus", "cells", "inputs", "at", "step"]
theorem sc_check_steps : FnScope N_check_steps ["steps", "modulus", "cells", "inputs"] (defScope s_check_steps) := ⟨rfl, rfl, rfl, by decide +kernel, rfl, by decide +kernel, by decide +kernel⟩
abbrev s_is_memory : Stmt := topS 43
abbrev N_is_memory : List Str := ["memory", "modulus"]
theorem sc_is_memory : FnScope N_is_memory ["memory", "modulus"] (defScope s_is_memory) := ⟨rfl, rfl, rfl, by decide +kernel, rfl, by decide +kernel, by decide +kernel⟩
abbrev s_are_places : Stmt := topS 44
abbrev N_are_places : List Str := ["places", "many", "cells"]
theorem sc_are_places : FnScope N_are_places ["places", "many", "cells"] (defScope s_are_places) := ⟨rfl, rfl, rfl, by decide +kernel, rfl, by decide +kernel, by decide +kernel⟩
abbrev s_share_cells : Stmt := topS 45
abbrev N_share_cells : List Str := ["loan", "other"]
theorem sc_share_cells : FnScope N_share_cells ["loan", "other"] (defScope s_share_cells) := ⟨rfl, rfl, rfl, by decide +kernel, rfl, by decide +kernel, by decide +kernel⟩
abbrev s_law_mixed : Stmt := topS 47
abbrev N_law_mixed : List Str := ["number", "k", "step"]
theorem sc_law_mixed : FnScope N_law_mixed ["number", "k"] (defScope s_law_mixed) := ⟨rfl, rfl, rfl, by decide +kernel, rfl, by decide +kernel, by decide +kernel⟩
abbrev s_law_numbers : Stmt := topS 48
abbrev N_law_numbers : List Str := ["script", "numbers", "cell", "rest", "k"]
theorem sc_law_numbers : FnScope N_law_numbers ["script"] (defScope s_law_numbers) := ⟨rfl, rfl, rfl, by decide +kernel, rfl, by decide +kernel, by decide +kernel⟩
abbrev s_law_draw : Stmt := topS 49
abbrev N_law_draw : List Str := ["draws", "at", "first"]
theorem sc_law_draw : FnScope N_law_draw ["draws"] (defScope s_law_draw) := ⟨rfl, rfl, rfl, by decide +kernel, rfl, by decide +kernel, by decide +kernel⟩
abbrev s_law_equal : Stmt := topS 50
abbrev N_law_equal : List Str := ["actual", "due"]
theorem sc_law_equal : FnScope N_law_equal ["actual", "due"] (defScope s_law_equal) := ⟨rfl, rfl, rfl, by decide +kernel, rfl, by decide +kernel, by decide +kernel⟩
abbrev s_law_all_equal : Stmt := topS 51
abbrev N_law_all_equal : List Str := ["actual", "due", "k"]
theorem sc_law_all_equal : FnScope N_law_all_equal ["actual", "due"] (defScope s_law_all_equal) := ⟨rfl, rfl, rfl, by decide +kernel, rfl, by decide +kernel, by decide +kernel⟩
abbrev s_law_gcd : Stmt := topS 52
abbrev N_law_gcd : List Str := ["a", "b", "k", "c"]
theorem sc_law_gcd : FnScope N_law_gcd ["a", "b"] (defScope s_law_gcd) := ⟨rfl, rfl, rfl, by decide +kernel, rfl, by decide +kernel, by decide +kernel⟩
abbrev s_law_factors : Stmt := topS 53
abbrev N_law_factors : List Str := ["draws", "cells", "inputs", "target", "factors", "k"]
theorem sc_law_factors : FnScope N_law_factors ["draws", "cells", "inputs", "target"] (defScope s_law_factors) := ⟨rfl, rfl, rfl, by decide +kernel, rfl, by decide +kernel, by decide +kernel⟩
abbrev s_law_number : Stmt := topS 54
abbrev N_law_number : List Str := ["draws", "modulus", "pick"]
theorem sc_law_number : FnScope N_law_number ["draws", "modulus"] (defScope s_law_number) := ⟨rfl, rfl, rfl, by decide +kernel, rfl, by decide +kernel, by decide +kernel⟩
abbrev s_law_is_prime : Stmt := topS 55
abbrev N_law_is_prime : List Str := ["number", "k"]
theorem sc_law_is_prime : FnScope N_law_is_prime ["number"] (defScope s_law_is_prime) := ⟨rfl, rfl, rfl, by decide +kernel, rfl, by decide +kernel, by decide +kernel⟩
abbrev s_law_modulus : Stmt := topS 56
abbrev N_law_modulus : List Str := ["draws", "pick"]
theorem sc_law_modulus : FnScope N_law_modulus ["draws"] (defScope s_law_modulus) := ⟨rfl, rfl, rfl, by decide +kernel, rfl, by decide +kernel, by decide +kernel⟩
abbrev s_law_look : Stmt := topS 57
abbrev N_law_look : List Str := ["draws", "modulus", "cells", "target", "size", "rows", "a", "b", "i", "j"]
theorem sc_law_look : FnScope N_law_look ["draws", "modulus", "cells", "target"] (defScope s_law_look) := ⟨rfl, rfl, rfl, by decide +kernel, rfl, by decide +kernel, by decide +kernel⟩
abbrev s_law_step : Stmt := topS 58
abbrev N_law_step : List Str := ["draws", "modulus", "cells", "inputs", "target", "pick", "unit"]
theorem sc_law_step : FnScope N_law_step ["draws", "modulus", "cells", "inputs"] (defScope s_law_step) := ⟨rfl, rfl, rfl, by decide +kernel, rfl, by decide +kernel, by decide +kernel⟩
abbrev s_law_places : Stmt := topS 59
abbrev N_law_places : List Str := ["draws", "size", "cells", "left", "k"]
theorem sc_law_places : FnScope N_law_places ["draws", "size", "cells"] (defScope s_law_places) := ⟨rfl, rfl, rfl, by decide +kernel, rfl, by decide +kernel, by decide +kernel⟩
abbrev s_law_loan : Stmt := topS 60
abbrev N_law_loan : List Str := ["draws", "modulus", "size", "cells", "inputs", "steps", "given", "k"]
theorem sc_law_loan : FnScope N_law_loan ["draws", "modulus", "size"] (defScope s_law_loan) := ⟨rfl, rfl, rfl, by decide +kernel, rfl, by decide +kernel, by decide +kernel⟩
abbrev s_law_size : Stmt := topS 61
abbrev N_law_size : List Str := ["draws"]
theorem sc_law_size : FnScope N_law_size ["draws"] (defScope s_law_size) := ⟨rfl, rfl, rfl, by decide +kernel, rfl, by decide +kernel, by decide +kernel⟩
abbrev s_law_bad : Stmt := topS 62
abbrev N_law_bad : List Str := ["draws", "high"]
theorem sc_law_bad : FnScope N_law_bad ["draws", "high"] (defScope s_law_bad) := ⟨rfl, rfl, rfl, by decide +kernel, rfl, by decide +kernel, by decide +kernel⟩
abbrev s_law_with : Stmt := topS 63
abbrev N_law_with : List Str := ["draws", "row", "bad", "at"]
theorem sc_law_with : FnScope N_law_with ["draws", "row", "bad"] (defScope s_law_with) := ⟨rfl, rfl, rfl, by decide +kernel, rfl, by decide +kernel, by decide +kernel⟩
abbrev s_law_spoilt : Stmt := topS 64
abbrev N_law_spoilt : List Str := ["draws", "loan", "modulus", "size", "places", "given", "pick", "at"]
theorem sc_law_spoilt : FnScope N_law_spoilt ["draws", "loan", "modulus", "size"] (defScope s_law_spoilt) := ⟨rfl, rfl, rfl, by decide +kernel, rfl, by decide +kernel, by decide +kernel⟩
abbrev s_law_lent : Stmt := topS 65
abbrev N_law_lent : List Str := ["vault", "program", "places", "given", "e"]
theorem sc_law_lent : FnScope N_law_lent ["vault", "program", "places", "given"] (defScope s_law_lent) := ⟨rfl, rfl, rfl, by decide +kernel, rfl, by decide +kernel, by decide +kernel⟩
abbrev s_law_is_ticket : Stmt := topS 66
abbrev N_law_is_ticket : List Str := ["vault", "ticket", "pick", "e"]
theorem sc_law_is_ticket : FnScope N_law_is_ticket ["vault", "ticket", "pick"] (defScope s_law_is_ticket) := ⟨rfl, rfl, rfl, by decide +kernel, rfl, by decide +kernel, by decide +kernel⟩
abbrev s_law_is_memory : Stmt := topS 67
abbrev N_law_is_memory : List Str := ["memory", "modulus", "e"]
theorem sc_law_is_memory : FnScope N_law_is_memory ["memory", "modulus"] (defScope s_law_is_memory) := ⟨rfl, rfl, rfl, by decide +kernel, rfl, by decide +kernel, by decide +kernel⟩
abbrev s_law_no_memories : Stmt := topS 68
abbrev N_law_no_memories : List Str := ["draws", "memory", "modulus", "rows", "row"]
theorem sc_law_no_memories : FnScope N_law_no_memories ["draws", "memory", "modulus"] (defScope s_law_no_memories) := ⟨rfl, rfl, rfl, by decide +kernel, rfl, by decide +kernel, by decide +kernel⟩
abbrev s_law : Stmt := topS 69
abbrev N_law : List Str := ["script", "draws", "size", "modulus", "memory", "vault", "tickets", "turn", "loan", "due", "spoilt", "other", "pick", "program", "bad", "k"]
theorem sc_law : FnScope N_law ["script"] (defScope s_law) := ⟨rfl, rfl, rfl, by decide +kernel, rfl, by decide +kernel, by decide +kernel⟩
abbrev s_Program___init : Stmt := inClass (topS 36) 0
abbrev N_Program___init : List Str := ["self", "modulus", "cells", "inputs", "steps"]
theorem sc_Program___init : FnScope N_Program___init ["self", "modulus", "cells", "inputs", "steps"] (defScope s_Program___init) := ⟨rfl, rfl, rfl, by decide +kernel, rfl, by decide +kernel, by decide +kernel⟩
abbrev s_Loan___init : Stmt := inClass (topS 41) 0
abbrev N_Loan___init : List Str := ["self", "program", "places", "given", "first"]
theorem sc_Loan___init : FnScope N_Loan___init ["self", "program", "places", "given", "first"] (defScope s_Loan___init) := ⟨rfl, rfl, rfl, by decide +kernel, rfl, by decide +kernel, by decide +kernel⟩
abbrev s_Vault___init : Stmt := inClass (topS 42) 0
abbrev N_Vault___init : List Str := ["self", "memory", "modulus"]
theorem sc_Vault___init : FnScope N_Vault___init ["self", "memory", "modulus"] (defScope s_Vault___init) := ⟨rfl, rfl, rfl, by decide +kernel, rfl, by decide +kernel, by decide +kernel⟩
abbrev s_Vault_memory : Stmt := inClass (topS 42) 1
abbrev N_Vault_memory : List Str := ["self"]
theorem sc_Vault_memory : FnScope N_Vault_memory ["self"] (defScope s_Vault_memory) := ⟨rfl, rfl, rfl, by decide +kernel, rfl, by decide +kernel, by decide +kernel⟩
abbrev s_Vault_lend : Stmt := inClass (topS 42) 2
abbrev N_Vault_lend : List Str := ["self", "program", "places", "given", "ticket"]
theorem sc_Vault_lend : FnScope N_Vault_lend ["self", "program", "places", "given"] (defScope s_Vault_lend) := ⟨rfl, rfl, rfl, by decide +kernel, rfl, by decide +kernel, by decide +kernel⟩
abbrev s_Vault_advance : Stmt := inClass (topS 42) 3
abbrev N_Vault_advance : List Str := ["self", "ticket", "most", "loan", "coming"]
theorem sc_Vault_advance : FnScope N_Vault_advance ["self", "ticket", "most"] (defScope s_Vault_advance) := ⟨rfl, rfl, rfl, by decide +kernel, rfl, by decide +kernel, by decide +kernel⟩
abbrev s_Vault_answer : Stmt := inClass (topS 42) 4
abbrev N_Vault_answer : List Str := ["self", "ticket", "loan"]
theorem sc_Vault_answer : FnScope N_Vault_answer ["self", "ticket"] (defScope s_Vault_answer) := ⟨rfl, rfl, rfl, by decide +kernel, rfl, by decide +kernel, by decide +kernel⟩
abbrev s_Vault_recall : Stmt := inClass (topS 42) 5
abbrev N_Vault_recall : List Str := ["self", "ticket", "loan", "past", "step"]
theorem sc_Vault_recall : FnScope N_Vault_recall ["self", "ticket"] (defScope s_Vault_recall) := ⟨rfl, rfl, rfl, by decide +kernel, rfl, by decide +kernel, by decide +kernel⟩
abbrev s_Vault_open_loans : Stmt := inClass (topS 42) 6
abbrev N_Vault_open_loans : List Str := ["self"]
theorem sc_Vault_open_loans : FnScope N_Vault_open_loans ["self"] (defScope s_Vault_open_loans) := ⟨rfl, rfl, rfl, by decide +kernel, rfl, by decide +kernel, by decide +kernel⟩
abbrev s_Vault__free_loan : Stmt := inClass (topS 42) 7
abbrev N_Vault__free_loan : List Str := ["self", "ticket", "loan", "other"]
theorem sc_Vault__free_loan : FnScope N_Vault__free_loan ["self", "ticket"] (defScope s_Vault__free_loan) := ⟨rfl, rfl, rfl, by decide +kernel, rfl, by decide +kernel, by decide +kernel⟩
abbrev s_Vault__perform : Stmt := inClass (topS 42) 8
abbrev N_Vault__perform : List Str := ["self", "loan", "steps", "place", "contents", "behind", "content"]
theorem sc_Vault__perform : FnScope N_Vault__perform ["self", "loan", "steps"] (defScope s_Vault__perform) := ⟨rfl, rfl, rfl, by decide +kernel, rfl, by decide +kernel, by decide +kernel⟩
structure Txt (K : PySem.W.Frag) (mg : Str → Option Value) where
  a_is_below : Addr
  fd_is_below : FuncData
  F_is_below : Fun K "is_below" "is_below" s_is_below a_is_below fd_is_below
  b_is_below : Binds K fd_is_below ["value", "bound"] []
  g_is_below : mg "is_below" = some (.ref a_is_below)
  a_is_modulus : Addr
  fd_is_modulus : FuncData
  F_is_modulus : Fun K "is_modulus" "is_modulus" s_is_modulus a_is_modulus fd_is_modulus
  b_is_modulus : Binds K fd_is_modulus ["value"] []
  g_is_modulus : mg "is_modulus" = some (.ref a_is_modulus)
  a_are_numbers : Addr
  fd_are_numbers : FuncData
  F_are_numbers : Fun K "are_numbers" "are_numbers" s_are_numbers a_are_numbers fd_are_numbers
  b_are_numbers : Binds K fd_are_numbers ["values", "many", "modulus"] []
  g_are_numbers : mg "are_numbers" = some (.ref a_are_numbers)
  a_is_prime : Addr
  fd_is_prime : FuncData
  F_is_prime : Fun K "is_prime" "is_prime" s_is_prime a_is_prime fd_is_prime
  b_is_prime : Binds K fd_is_prime ["n"] []
  g_is_prime : mg "is_prime" = some (.ref a_is_prime)
  a_inverse_of : Addr
  fd_inverse_of : FuncData
  F_inverse_of : Fun K "inverse_of" "inverse_of" s_inverse_of a_inverse_of fd_inverse_of
  b_inverse_of : Binds K fd_inverse_of ["n", "modulus"] []
  g_inverse_of : mg "inverse_of" = some (.ref a_inverse_of)
  a_interpolate : Addr
  fd_interpolate : FuncData
  F_interpolate : Fun K "interpolate" "interpolate" s_interpolate a_interpolate fd_interpolate
  b_interpolate : Binds K fd_interpolate ["table", "prime", "x", "y"] []
  g_interpolate : mg "interpolate" = some (.ref a_interpolate)
  a_weighted : Addr
  fd_weighted : FuncData
  F_weighted : Fun K "_weighted" "_weighted" s_weighted a_weighted fd_weighted
  b_weighted : Binds K fd_weighted ["row", "shares"] []
  g_weighted : mg "_weighted" = some (.ref a_weighted)
  a_shares : Addr
  fd_shares : FuncData
  F_shares : Fun K "_shares" "_shares" s_shares a_shares fd_shares
  b_shares : Binds K fd_shares ["size", "prime", "x"] []
  g_shares : mg "_shares" = some (.ref a_shares)
  a_products_of_differences : Addr
  fd_products_of_differences : FuncData
  F_products_of_differences : Fun K "products_of_differences" "products_of_differences" s_products_of_differences a_products_of_differences fd_products_of_differences
  b_products_of_differences : Binds K fd_products_of_differences ["size", "prime"] []
  g_products_of_differences : mg "products_of_differences" = some (.ref a_products_of_differences)
  a_is_step : Addr
  fd_is_step : FuncData
  F_is_step : Fun K "is_step" "is_step" s_is_step a_is_step fd_is_step
  b_is_step : Binds K fd_is_step ["step", "modulus", "cells", "inputs"] []
  g_is_step : mg "is_step" = some (.ref a_is_step)
  a_are_factors : Addr
  fd_are_factors : FuncData
  F_are_factors : Fun K "_are_factors" "_are_factors" s_are_factors a_are_factors fd_are_factors
  b_are_factors : Binds K fd_are_factors ["factors", "target", "cells", "inputs"] []
  g_are_factors : mg "_are_factors" = some (.ref a_are_factors)
  a_is_factor : Addr
  fd_is_factor : FuncData
  F_is_factor : Fun K "_is_factor" "_is_factor" s_is_factor a_is_factor fd_is_factor
  b_is_factor : Binds K fd_is_factor ["factor", "target", "cells", "inputs"] []
  g_is_factor : mg "_is_factor" = some (.ref a_is_factor)
  a_are_three_cells : Addr
  fd_are_three_cells : FuncData
  F_are_three_cells : Fun K "_are_three_cells" "_are_three_cells" s_are_three_cells a_are_three_cells fd_are_three_cells
  b_are_three_cells : Binds K fd_are_three_cells ["target", "a", "b", "cells"] []
  g_are_three_cells : mg "_are_three_cells" = some (.ref a_are_three_cells)
  a_is_sign : Addr
  fd_is_sign : FuncData
  F_is_sign : Fun K "_is_sign" "_is_sign" s_is_sign a_is_sign fd_is_sign
  b_is_sign : Binds K fd_is_sign ["sign", "modulus"] []
  g_is_sign : mg "_is_sign" = some (.ref a_is_sign)
  a_is_table : Addr
  fd_is_table : FuncData
  F_is_table : Fun K "is_table" "is_table" s_is_table a_is_table fd_is_table
  b_is_table : Binds K fd_is_table ["table", "modulus"] []
  g_is_table : mg "is_table" = some (.ref a_is_table)
  a_is_row : Addr
  fd_is_row : FuncData
  F_is_row : Fun K "_is_row" "_is_row" s_is_row a_is_row fd_is_row
  b_is_row : Binds K fd_is_row ["row", "size", "modulus"] []
  g_is_row : mg "_is_row" = some (.ref a_is_row)
  a_changes : Addr
  fd_changes : FuncData
  F_changes : Fun K "changes" "changes" s_changes a_changes fd_changes
  b_changes : Binds K fd_changes ["step", "memory", "given", "modulus"] []
  g_changes : mg "changes" = some (.ref a_changes)
  a_performed : Addr
  fd_performed : FuncData
  F_performed : Fun K "performed" "performed" s_performed a_performed fd_performed
  b_performed : Binds K fd_performed ["steps", "memory", "given", "modulus"] []
  g_performed : mg "performed" = some (.ref a_performed)
  a_product_of : Addr
  fd_product_of : FuncData
  F_product_of : Fun K "_product_of" "_product_of" s_product_of a_product_of fd_product_of
  b_product_of : Binds K fd_product_of ["factors", "memory", "given", "modulus"] []
  g_product_of : mg "_product_of" = some (.ref a_product_of)
  a_inverse_step : Addr
  fd_inverse_step : FuncData
  F_inverse_step : Fun K "inverse_step" "inverse_step" s_inverse_step a_inverse_step fd_inverse_step
  b_inverse_step : Binds K fd_inverse_step ["step", "modulus"] []
  g_inverse_step : mg "inverse_step" = some (.ref a_inverse_step)
  a_check_sizes : Addr
  fd_check_sizes : FuncData
  F_check_sizes : Fun K "_check_sizes" "_check_sizes" s_check_sizes a_check_sizes fd_check_sizes
  b_check_sizes : Binds K fd_check_sizes ["modulus", "cells", "inputs"] []
  g_check_sizes : mg "_check_sizes" = some (.ref a_check_sizes)
  a_check_steps : Addr
  fd_check_steps : FuncData
  F_check_steps : Fun K "_check_steps" "_check_steps" s_check_steps a_check_steps fd_check_steps
  b_check_steps : Binds K fd_check_steps ["steps", "modulus", "cells", "inputs"] []
  g_check_steps : mg "_check_steps" = some (.ref a_check_steps)
  a_is_memory : Addr
  fd_is_memory : FuncData
  F_is_memory : Fun K "_is_memory" "_is_memory" s_is_memory a_is_memory fd_is_memory
  b_is_memory : Binds K fd_is_memory ["memory", "modulus"] []
  g_is_memory : mg "_is_memory" = some (.ref a_is_memory)
  a_are_places : Addr
  fd_are_places : FuncData
  F_are_places : Fun K "_are_places" "_are_places" s_are_places a_are_places fd_are_places
  b_are_places : Binds K fd_are_places ["places", "many", "cells"] []
  g_are_places : mg "_are_places" = some (.ref a_are_places)
  a_share_cells : Addr
  fd_share_cells : FuncData
  F_share_cells : Fun K "_share_cells" "_share_cells" s_share_cells a_share_cells fd_share_cells
  b_share_cells : Binds K fd_share_cells ["loan", "other"] []
  g_share_cells : mg "_share_cells" = some (.ref a_share_cells)
  a_law_mixed : Addr
  fd_law_mixed : FuncData
  F_law_mixed : Fun K "_law_mixed" "_law_mixed" s_law_mixed a_law_mixed fd_law_mixed
  b_law_mixed : Binds K fd_law_mixed ["number", "k"] []
  g_law_mixed : mg "_law_mixed" = some (.ref a_law_mixed)
  a_law_numbers : Addr
  fd_law_numbers : FuncData
  F_law_numbers : Fun K "_law_numbers" "_law_numbers" s_law_numbers a_law_numbers fd_law_numbers
  b_law_numbers : Binds K fd_law_numbers ["script"] []
  g_law_numbers : mg "_law_numbers" = some (.ref a_law_numbers)
  a_law_draw : Addr
  fd_law_draw : FuncData
  F_law_draw : Fun K "_law_draw" "_law_draw" s_law_draw a_law_draw fd_law_draw
  b_law_draw : Binds K fd_law_draw ["draws"] []
  g_law_draw : mg "_law_draw" = some (.ref a_law_draw)
  a_law_equal : Addr
  fd_law_equal : FuncData
  F_law_equal : Fun K "_law_equal" "_law_equal" s_law_equal a_law_equal fd_law_equal
  b_law_equal : Binds K fd_law_equal ["actual", "due"] []
  g_law_equal : mg "_law_equal" = some (.ref a_law_equal)
  a_law_all_equal : Addr
  fd_law_all_equal : FuncData
  F_law_all_equal : Fun K "_law_all_equal" "_law_all_equal" s_law_all_equal a_law_all_equal fd_law_all_equal
  b_law_all_equal : Binds K fd_law_all_equal ["actual", "due"] []
  g_law_all_equal : mg "_law_all_equal" = some (.ref a_law_all_equal)
  a_law_gcd : Addr
  fd_law_gcd : FuncData
  F_law_gcd : Fun K "_law_gcd" "_law_gcd" s_law_gcd a_law_gcd fd_law_gcd
  b_law_gcd : Binds K fd_law_gcd ["a", "b"] []
  g_law_gcd : mg "_law_gcd" = some (.ref a_law_gcd)
  a_law_factors : Addr
  fd_law_factors : FuncData
  F_law_factors : Fun K "_law_factors" "_law_factors" s_law_factors a_law_factors fd_law_factors
  b_law_factors : Binds K fd_law_factors ["draws", "cells", "inputs", "target"] []
  g_law_factors : mg "_law_factors" = some (.ref a_law_factors)
  a_law_number : Addr
  fd_law_number : FuncData
  F_law_number : Fun K "_law_number" "_law_number" s_law_number a_law_number fd_law_number
  b_law_number : Binds K fd_law_number ["draws", "modulus"] []
  g_law_number : mg "_law_number" = some (.ref a_law_number)
  a_law_is_prime : Addr
  fd_law_is_prime : FuncData
  F_law_is_prime : Fun K "_law_is_prime" "_law_is_prime" s_law_is_prime a_law_is_prime fd_law_is_prime
  b_law_is_prime : Binds K fd_law_is_prime ["number"] []
  g_law_is_prime : mg "_law_is_prime" = some (.ref a_law_is_prime)
  a_law_modulus : Addr
  fd_law_modulus : FuncData
  F_law_modulus : Fun K "_law_modulus" "_law_modulus" s_law_modulus a_law_modulus fd_law_modulus
  b_law_modulus : Binds K fd_law_modulus ["draws"] []
  g_law_modulus : mg "_law_modulus" = some (.ref a_law_modulus)
  a_law_look : Addr
  fd_law_look : FuncData
  F_law_look : Fun K "_law_look" "_law_look" s_law_look a_law_look fd_law_look
  b_law_look : Binds K fd_law_look ["draws", "modulus", "cells", "target"] []
  g_law_look : mg "_law_look" = some (.ref a_law_look)
  a_law_step : Addr
  fd_law_step : FuncData
  F_law_step : Fun K "_law_step" "_law_step" s_law_step a_law_step fd_law_step
  b_law_step : Binds K fd_law_step ["draws", "modulus", "cells", "inputs"] []
  g_law_step : mg "_law_step" = some (.ref a_law_step)
  a_law_places : Addr
  fd_law_places : FuncData
  F_law_places : Fun K "_law_places" "_law_places" s_law_places a_law_places fd_law_places
  b_law_places : Binds K fd_law_places ["draws", "size", "cells"] []
  g_law_places : mg "_law_places" = some (.ref a_law_places)
  a_law_loan : Addr
  fd_law_loan : FuncData
  F_law_loan : Fun K "_law_loan" "_law_loan" s_law_loan a_law_loan fd_law_loan
  b_law_loan : Binds K fd_law_loan ["draws", "modulus", "size"] []
  g_law_loan : mg "_law_loan" = some (.ref a_law_loan)
  a_law_size : Addr
  fd_law_size : FuncData
  F_law_size : Fun K "_law_size" "_law_size" s_law_size a_law_size fd_law_size
  b_law_size : Binds K fd_law_size ["draws"] []
  g_law_size : mg "_law_size" = some (.ref a_law_size)
  a_law_bad : Addr
  fd_law_bad : FuncData
  F_law_bad : Fun K "_law_bad" "_law_bad" s_law_bad a_law_bad fd_law_bad
  b_law_bad : Binds K fd_law_bad ["draws", "high"] []
  g_law_bad : mg "_law_bad" = some (.ref a_law_bad)
  a_law_with : Addr
  fd_law_with : FuncData
  F_law_with : Fun K "_law_with" "_law_with" s_law_with a_law_with fd_law_with
  b_law_with : Binds K fd_law_with ["draws", "row", "bad"] []
  g_law_with : mg "_law_with" = some (.ref a_law_with)
  a_law_spoilt : Addr
  fd_law_spoilt : FuncData
  F_law_spoilt : Fun K "_law_spoilt" "_law_spoilt" s_law_spoilt a_law_spoilt fd_law_spoilt
  b_law_spoilt : Binds K fd_law_spoilt ["draws", "loan", "modulus", "size"] []
  g_law_spoilt : mg "_law_spoilt" = some (.ref a_law_spoilt)
  a_law_lent : Addr
  fd_law_lent : FuncData
  F_law_lent : Fun K "_law_lent" "_law_lent" s_law_lent a_law_lent fd_law_lent
  b_law_lent : Binds K fd_law_lent ["vault", "program", "places", "given"] []
  g_law_lent : mg "_law_lent" = some (.ref a_law_lent)
  a_law_is_ticket : Addr
  fd_law_is_ticket : FuncData
  F_law_is_ticket : Fun K "_law_is_ticket" "_law_is_ticket" s_law_is_ticket a_law_is_ticket fd_law_is_ticket
  b_law_is_ticket : Binds K fd_law_is_ticket ["vault", "ticket", "pick"] []
  g_law_is_ticket : mg "_law_is_ticket" = some (.ref a_law_is_ticket)
  a_law_is_memory : Addr
  fd_law_is_memory : FuncData
  F_law_is_memory : Fun K "_law_is_memory" "_law_is_memory" s_law_is_memory a_law_is_memory fd_law_is_memory
  b_law_is_memory : Binds K fd_law_is_memory ["memory", "modulus"] []
  g_law_is_memory : mg "_law_is_memory" = some (.ref a_law_is_memory)
  a_law_no_memories : Addr
  fd_law_no_memories : FuncData
  F_law_no_memories : Fun K "_law_no_memories" "_law_no_memories" s_law_no_memories a_law_no_memories fd_law_no_memories
  b_law_no_memories : Binds K fd_law_no_memories ["draws", "memory", "modulus"] []
  g_law_no_memories : mg "_law_no_memories" = some (.ref a_law_no_memories)
  a_law : Addr
  fd_law : FuncData
  F_law : Fun K "law" "law" s_law a_law fd_law
  b_law : Binds K fd_law ["script"] []
  g_law : mg "law" = some (.ref a_law)
  a_Program___init : Addr
  fd_Program___init : FuncData
  F_Program___init : Fun K "__init__" "Program.__init__" s_Program___init a_Program___init fd_Program___init
  b_Program___init : Binds K fd_Program___init ["self", "modulus", "cells", "inputs", "steps"] []
  a_Loan___init : Addr
  fd_Loan___init : FuncData
  F_Loan___init : Fun K "__init__" "Loan.__init__" s_Loan___init a_Loan___init fd_Loan___init
  b_Loan___init : Binds K fd_Loan___init ["self", "program", "places", "given", "first"] []
  a_Vault___init : Addr
  fd_Vault___init : FuncData
  F_Vault___init : Fun K "__init__" "Vault.__init__" s_Vault___init a_Vault___init fd_Vault___init
  b_Vault___init : Binds K fd_Vault___init ["self", "memory", "modulus"] []
  a_Vault_memory : Addr
  fd_Vault_memory : FuncData
  F_Vault_memory : Fun K "memory" "Vault.memory" s_Vault_memory a_Vault_memory fd_Vault_memory
  b_Vault_memory : Binds K fd_Vault_memory ["self"] []
  a_Vault_lend : Addr
  fd_Vault_lend : FuncData
  F_Vault_lend : Fun K "lend" "Vault.lend" s_Vault_lend a_Vault_lend fd_Vault_lend
  b_Vault_lend : Binds K fd_Vault_lend ["self", "program", "places", "given"] []
  a_Vault_advance : Addr
  fd_Vault_advance : FuncData
  F_Vault_advance : Fun K "advance" "Vault.advance" s_Vault_advance a_Vault_advance fd_Vault_advance
  b_Vault_advance : Binds K fd_Vault_advance ["self", "ticket", "most"] []
  a_Vault_answer : Addr
  fd_Vault_answer : FuncData
  F_Vault_answer : Fun K "answer" "Vault.answer" s_Vault_answer a_Vault_answer fd_Vault_answer
  b_Vault_answer : Binds K fd_Vault_answer ["self", "ticket"] []
  a_Vault_recall : Addr
  fd_Vault_recall : FuncData
  F_Vault_recall : Fun K "recall" "Vault.recall" s_Vault_recall a_Vault_recall fd_Vault_recall
  b_Vault_recall : Binds K fd_Vault_recall ["self", "ticket"] []
  a_Vault_open_loans : Addr
  fd_Vault_open_loans : FuncData
  F_Vault_open_loans : Fun K "open_loans" "Vault.open_loans" s_Vault_open_loans a_Vault_open_loans fd_Vault_open_loans
  b_Vault_open_loans : Binds K fd_Vault_open_loans ["self"] []
  a_Vault__free_loan : Addr
  fd_Vault__free_loan : FuncData
  F_Vault__free_loan : Fun K "_free_loan" "Vault._free_loan" s_Vault__free_loan a_Vault__free_loan fd_Vault__free_loan
  b_Vault__free_loan : Binds K fd_Vault__free_loan ["self", "ticket"] []
  a_Vault__perform : Addr
  fd_Vault__perform : FuncData
  F_Vault__perform : Fun K "_perform" "Vault._perform" s_Vault__perform a_Vault__perform fd_Vault__perform
  b_Vault__perform : Binds K fd_Vault__perform ["self", "loan", "steps"] []
  C_Program : Addr
  cl_Program : Cls K C_Program
  gc_Program : mg "Program" = some (.ref C_Program)
  na_Program_modulus : NoAttr K C_Program "modulus"
  na_Program_cells : NoAttr K C_Program "cells"
  na_Program_inputs : NoAttr K C_Program "inputs"
  na_Program_steps : NoAttr K C_Program "steps"
  ic_Program : C8.InsC K C_Program
  sf_Program : PySem.W.selfFirst K C_Program = true
  mk_Program : Mk K C_Program a_Program___init
  C_Loan : Addr
  cl_Loan : Cls K C_Loan
  gc_Loan : mg "Loan" = some (.ref C_Loan)
  na_Loan_steps : NoAttr K C_Loan "steps"
  na_Loan_places : NoAttr K C_Loan "places"
  na_Loan_given : NoAttr K C_Loan "given"
  na_Loan_first : NoAttr K C_Loan "first"
  na_Loan_done : NoAttr K C_Loan "done"
  mk_Loan : Mk K C_Loan a_Loan___init
  C_Vault : Addr
  cl_Vault : Cls K C_Vault
  gc_Vault : mg "Vault" = some (.ref C_Vault)
  na_Vault__memory : NoAttr K C_Vault "_memory"
  na_Vault__modulus : NoAttr K C_Vault "_modulus"
  na_Vault__loans : NoAttr K C_Vault "_loans"
  na_Vault__next_ticket : NoAttr K C_Vault "_next_ticket"
  mk_Vault : Mk K C_Vault a_Vault___init
  p_Vault_memory : Addr
  pr_Vault_memory : PropOf K C_Vault "memory" p_Vault_memory a_Vault_memory
  me_Vault_lend : Meth K C_Vault "lend" a_Vault_lend
  me_Vault_advance : Meth K C_Vault "advance" a_Vault_advance
  me_Vault_answer : Meth K C_Vault "answer" a_Vault_answer
  me_Vault_recall : Meth K C_Vault "recall" a_Vault_recall
  me_Vault_open_loans : Meth K C_Vault "open_loans" a_Vault_open_loans
  me_Vault__free_loan : Meth K C_Vault "_free_loan" a_Vault__free_loan
  me_Vault__perform : Meth K C_Vault "_perform" a_Vault__perform
  E_BrimfulError : Addr
  gE_BrimfulError : mg "BrimfulError" = some (.ref E_BrimfulError)
  xE_BrimfulError : PySem.W.excIn K E_BrimfulError [.type "ValueError", .type "Exception", .type "BaseException", .type "object"] "ValueError.__new__" = true
  kE_BrimfulError : PySem.W.keepIn K (.ref E_BrimfulError) = true
  bE_BrimfulError : PySem.W.subIn K (.ref E_BrimfulError) (.type "BaseException") = some true
  tE_BrimfulError : PySem.W.typeIn K (.ref E_BrimfulError) = some (.type "type")
  dE_BrimfulError : PySem.W.hasDictIn K E_BrimfulError = true
  cE_BrimfulError : L2.ExcC K E_BrimfulError
  E_BadTicket : Addr
  gE_BadTicket : mg "BadTicket" = some (.ref E_BadTicket)
  xE_BadTicket : PySem.W.excIn K E_BadTicket [.type "ValueError", .type "Exception", .type "BaseException", .type "object"] "ValueError.__new__" = true
  kE_BadTicket : PySem.W.keepIn K (.ref E_BadTicket) = true
  bE_BadTicket : PySem.W.subIn K (.ref E_BadTicket) (.type "BaseException") = some true
  tE_BadTicket : PySem.W.typeIn K (.ref E_BadTicket) = some (.type "type")
  dE_BadTicket : PySem.W.hasDictIn K E_BadTicket = true
  cE_BadTicket : L2.ExcC K E_BadTicket
  E_Busy : Addr
  gE_Busy : mg "Busy" = some (.ref E_Busy)
  xE_Busy : PySem.W.excIn K E_Busy [.type "ValueError", .type "Exception", .type "BaseException", .type "object"] "ValueError.__new__" = true
  kE_Busy : PySem.W.keepIn K (.ref E_Busy) = true
  bE_Busy : PySem.W.subIn K (.ref E_Busy) (.type "BaseException") = some true
  tE_Busy : PySem.W.typeIn K (.ref E_Busy) = some (.type "type")
  dE_Busy : PySem.W.hasDictIn K E_Busy = true
  cE_Busy : L2.ExcC K E_Busy
  E_BadStep : Addr
  gE_BadStep : mg "BadStep" = some (.ref E_BadStep)
  xE_BadStep : PySem.W.excIn K E_BadStep [.type "ValueError", .type "Exception", .type "BaseException", .type "object"] "ValueError.__new__" = true
  kE_BadStep : PySem.W.keepIn K (.ref E_BadStep) = true
  bE_BadStep : PySem.W.subIn K (.ref E_BadStep) (.type "BaseException") = some true
  tE_BadStep : PySem.W.typeIn K (.ref E_BadStep) = some (.type "type")
  dE_BadStep : PySem.W.hasDictIn K E_BadStep = true
  cE_BadStep : L2.ExcC K E_BadStep
  E_BadMemory : Addr
  gE_BadMemory : mg "BadMemory" = some (.ref E_BadMemory)
  xE_BadMemory : PySem.W.excIn K E_BadMemory [.type "ValueError", .type "Exception", .type "BaseException", .type "object"] "ValueError.__new__" = true
  kE_BadMemory : PySem.W.keepIn K (.ref E_BadMemory) = true
  bE_BadMemory : PySem.W.subIn K (.ref E_BadMemory) (.type "BaseException") = some true
  tE_BadMemory : PySem.W.typeIn K (.ref E_BadMemory) = some (.type "type")
  dE_BadMemory : PySem.W.hasDictIn K E_BadMemory = true
  cE_BadMemory : L2.ExcC K E_BadMemory
  sE_BrimfulError_BrimfulError : PySem.W.subIn K (.ref E_BrimfulError) (.ref E_BrimfulError) = some true
  sE_BrimfulError_BadTicket : PySem.W.subIn K (.ref E_BrimfulError) (.ref E_BadTicket) = some false
  sE_BrimfulError_Busy : PySem.W.subIn K (.ref E_BrimfulError) (.ref E_Busy) = some false
  sE_BrimfulError_BadStep : PySem.W.subIn K (.ref E_BrimfulError) (.ref E_BadStep) = some false
  sE_BrimfulError_BadMemory : PySem.W.subIn K (.ref E_BrimfulError) (.ref E_BadMemory) = some false
  sE_BadTicket_BrimfulError : PySem.W.subIn K (.ref E_BadTicket) (.ref E_BrimfulError) = some true
  sE_BadTicket_BadTicket : PySem.W.subIn K (.ref E_BadTicket) (.ref E_BadTicket) = some true
  sE_BadTicket_Busy : PySem.W.subIn K (.ref E_BadTicket) (.ref E_Busy) = some false
  sE_BadTicket_BadStep : PySem.W.subIn K (.ref E_BadTicket) (.ref E_BadStep) = some false
  sE_BadTicket_BadMemory : PySem.W.subIn K (.ref E_BadTicket) (.ref E_BadMemory) = some false
  sE_Busy_BrimfulError : PySem.W.subIn K (.ref E_Busy) (.ref E_BrimfulError) = some true
  sE_Busy_BadTicket : PySem.W.subIn K (.ref E_Busy) (.ref E_BadTicket) = some false
  sE_Busy_Busy : PySem.W.subIn K (.ref E_Busy) (.ref E_Busy) = some true
  sE_Busy_BadStep : PySem.W.subIn K (.ref E_Busy) (.ref E_BadStep) = some false
  sE_Busy_BadMemory : PySem.W.subIn K (.ref E_Busy) (.ref E_BadMemory) = some false
  sE_BadStep_BrimfulError : PySem.W.subIn K (.ref E_BadStep) (.ref E_BrimfulError) = some true
  sE_BadStep_BadTicket : PySem.W.subIn K (.ref E_BadStep) (.ref E_BadTicket) = some false
  sE_BadStep_Busy : PySem.W.subIn K (.ref E_BadStep) (.ref E_Busy) = some false
  sE_BadStep_BadStep : PySem.W.subIn K (.ref E_BadStep) (.ref E_BadStep) = some true
  sE_BadStep_BadMemory : PySem.W.subIn K (.ref E_BadStep) (.ref E_BadMemory) = some false
  sE_BadMemory_BrimfulError : PySem.W.subIn K (.ref E_BadMemory) (.ref E_BrimfulError) = some true
  sE_BadMemory_BadTicket : PySem.W.subIn K (.ref E_BadMemory) (.ref E_BadTicket) = some false
  sE_BadMemory_Busy : PySem.W.subIn K (.ref E_BadMemory) (.ref E_Busy) = some false
  sE_BadMemory_BadStep : PySem.W.subIn K (.ref E_BadMemory) (.ref E_BadStep) = some false
  sE_BadMemory_BadMemory : PySem.W.subIn K (.ref E_BadMemory) (.ref E_BadMemory) = some true
  m_all : mg "all" = none
  m_any : mg "any" = none
  m_bool : mg "bool" = none
  m_enumerate : mg "enumerate" = none
  m_int : mg "int" = none
  m_isinstance : mg "isinstance" = none
  m_len : mg "len" = none
  m_list : mg "list" = none
  m_max : mg "max" = none
  m_min : mg "min" = none
  m_property : mg "property" = none
  m_range : mg "range" = none
  m_set : mg "set" = none
  m_sorted : mg "sorted" = none
  m_str : mg "str" = none
  m_sum : mg "sum" = none
  m_tuple : mg "tuple" = none
  m_zip : mg "zip" = none
  m_gcd : mg "gcd" = some (.builtin "math.gcd")
  m_isqrt : mg "isqrt" = some (.builtin "math.isqrt")
  t_GREATEST_MODULUS : Tok
  c_GREATEST_MODULUS : mg "GREATEST_MODULUS" = some (.int 1000000000 t_GREATEST_MODULUS)
  t_MOST_CELLS_programs : Tok
  c_MOST_CELLS_programs : mg "MOST_CELLS_programs" = some (.int 60 t_MOST_CELLS_programs)
  t_MOST_CELLS_vault : Tok
  c_MOST_CELLS_vault : mg "MOST_CELLS_vault" = some (.int 200 t_MOST_CELLS_vault)
  t_MOST_FACTORS : Tok
  c_MOST_FACTORS : mg "MOST_FACTORS" = some (.int 3 t_MOST_FACTORS)
  t_MOST_INPUTS : Tok
  c_MOST_INPUTS : mg "MOST_INPUTS" = some (.int 60 t_MOST_INPUTS)
  t_MOST_STEPS : Tok
  c_MOST_STEPS : mg "MOST_STEPS" = some (.int 20000 t_MOST_STEPS)
end Br
namespace Br
open PySem PySem.Spec PyProof.Rows L2
local macro_rules | `(tactic| walk_at "x1") => `(tactic| (with_reducible first
  | refine Br.x_seq ?_ | refine Br.x_set ?_ | refine Br.x_asg ?_ | refine Br.x_next ?_ | refine Br.x_ret ?_ | refine Br.x_retN ?_ | refine Br.x_drop ?_ | refine Br.x_if ?_ | refine Br.x_brk ?_ | refine Br.x_cont ?_
  | refine Br.x_c ?_ | refine Br.x_op ?_ | refine Br.x_un ?_ | refine Br.x_I0 ?_ | refine Br.x_U ?_ | refine Br.x_EqI ?_ | refine Br.x_NeI ?_ | refine Br.x_EqB ?_ | refine Br.x_iN ?_ | refine Br.x_int1 ?_ | refine Br.x_min2 ?_ | refine Br.x_max2 ?_ | refine Br.x_nN ?_ | refine Br.x_ifE ?_
  | refine Br.x_test (b := ()) ?_ | refine Br.x_tB ?_ | refine Br.x_bl ?_ | refine Br.x_and ?_ | refine Br.x_or ?_ | refine Br.x_not ?_ | refine Br.x_andV ?_ | refine Br.x_orV ?_ | refine Br.x_notV ?_ | refine Br.x_blP ?_
  | refine Br.x_nil ?_ | refine Br.x_cons ?_ | refine Br.x_call ?_ | refine Br.x_CB ?_ | refine Br.x_BM ?_ | refine Br.x_tup ?_ | refine Br.x_lst ?_ | refine Br.x_chain ?_ | refine Br.x_par ?_ | refine Br.x_gSub ?_ | refine Br.x_gName ?_ | refine Br.x_fld ?_ | refine Br.x_fldS ?_ | refine Br.x_match ?_ | refine Br.x_else ?_ | refine Br.x_noCase ?_))
local macro_rules | `(tactic| walk_at "xv") => `(tactic| ((with_reducible refine' Br.x_var ?hvar ?_); (case hvar => rfl)))
local macro_rules | `(tactic| walk_at "xd") => `(tactic| (dsimp only [List.set_cons_zero, List.set_cons_succ, List.cons_append, List.nil_append, List.append_nil]))
local macro_rules | `(tactic| walk_at "xi") => `(tactic| ((with_reducible refine Br.x_I ?hside ?_); (case hside => first | exact Br.mul_r (by decide) (by decide) | exact Br.mul_l (by decide) (by decide) | exact Br.mul_l (by omega) (by omega) | exact Br.mul_r (by omega) (by omega) | (show (0 : Int) < _; first | decide | omega) | exact ⟨by decide, by decide⟩ | exact ⟨by omega, by omega⟩ | exact ⟨by decide, by decide, by decide⟩)))
local macro_rules | `(tactic| walk_at "x") => `(tactic| (repeat (first | walk_at "x1" | walk_at "xv" | walk_at "xi" | walk_at "xd")))
local macro_rules | `(tactic| walk_at "start") => `(tactic| (simp only [L2.start, List.map_cons, List.map_nil, List.length_cons, List.length_nil, Nat.reduceAdd, Nat.reduceSub, List.replicate, List.cons_append, List.nil_append, List.append_nil]))
local macro_rules | `(tactic| walk_at "isi") => `(tactic| first
  | refine Br.x_isi (b := true) (.base (.int _)) (by decide +kernel) ?_ | refine Br.x_isi (b := false) (.base (.int _)) (by decide +kernel) ?_
  | refine Br.x_isi (b := true) (.base (.bl _)) (by decide +kernel) ?_ | refine Br.x_isi (b := false) (.base (.bl _)) (by decide +kernel) ?_
  | refine Br.x_isi (b := false) (.base .non) (by decide +kernel) ?_
  | refine Br.x_isi (b := true) (.base (.str _)) (by decide +kernel) ?_ | refine Br.x_isi (b := false) (.base (.str _)) (by decide +kernel) ?_
  | refine Br.x_isi (b := true) (.base (.tup (by assumption))) (by decide +kernel) ?_ | refine Br.x_isi (b := false) (.base (.tup (by assumption))) (by decide +kernel) ?_
  | refine Br.x_isi (b := true) (.base (.lst (by assumption))) (by decide +kernel) ?_ | refine Br.x_isi (b := false) (.base (.lst (by assumption))) (by decide +kernel) ?_)
local macro_rules | `(tactic| walk_at "f") => `(tactic| (refine L2.iteF ?_; walk_at "x"))
local macro_rules | `(tactic| walk_at "t") => `(tactic| (refine L2.iteT ?_; walk_at "x"))
local macro_rules | `(tactic| walk_at "is") => `(tactic| (walk_at "isi"; walk_at "x"))
local macro_rules | `(tactic| walk_at "xb") => `(tactic| (simp only [Br.bindS, List.set_cons_zero, List.set_cons_succ]; walk_at "x"))

section
variable {P : Program} {w : World} {K : PySem.W.Frag} {mg : Str → Option Value} {base : Heap}

/-! ### the draws -/
/-- the draws at d: a list of a list of numbers (at n) and a place -/
def Dr (H : Hp) (d n : Addr) : Prop := ∃ (ns : List Int) (k : Int), H d = some (.lst [.ref n, .int k]) ∧ H n = some (.lst (ns.map V.int)) ∧ Rg 0 1000000 ns ∧ 0 ≤ k ∧ ns.length ≤ 3780
theorem Dr.ne {H : Hp} {d n : Addr} (h : Dr H d n) : H d ≠ none := by
  obtain ⟨_, _, h, _⟩ := h
  rw [h]
  exact fun z => nomatch z
theorem Dr.new {H : Hp} {d n p : Addr} (h : Dr H d n) (hp : H p = none) : p ≠ d := fun e => h.ne (e ▸ hp)
theorem Dr.newN {H : Hp} {d n p : Addr} (h : Dr H d n) (hp : H p = none) : p ≠ n := fun e => by
  obtain ⟨_, _, _, h2, _⟩ := h
  rw [← e, hp] at h2
  cases h2
theorem Dr.dn {H : Hp} {d n : Addr} (h : Dr H d n) : d ≠ n := by
  obtain ⟨ns, k, h1, h2, _⟩ := h
  exact ne_of h1 h2 (by
    intro e
    have e1 : [V.ref n, V.int k] = ns.map V.int := HO.lst.inj e
    cases ns with
    | nil => cases e1
    | cons x r => cases (List.cons.inj e1).1)
/-- changes elsewhere -/
theorem Dr.upd {H : Hp} {d n p : Addr} {o : HO} (h : Dr H d n) (hd : p ≠ d) (hn : p ≠ n) : Dr (upd H p o) d n := by
  obtain ⟨ns, k, h1, h2, h3⟩ := h
  exact ⟨ns, k, by rw [upd_ne hd.symm]; exact h1, by rw [upd_ne hn.symm]; exact h2, h3⟩
theorem Dr.upd0 {H : Hp} {d n p : Addr} {o : HO} (h : Dr H d n) (hp : H p = none) : Dr (L2.upd H p o) d n := h.upd (h.new hp) (h.newN hp)
theorem Dr.same {H H' : Hp} {d n : Addr} (h : Dr H d n) (s : Same H H') : Dr H' d n := by
  obtain ⟨ns, k, h1, h2, h3⟩ := h
  exact ⟨ns, k, s _ _ h1, s _ _ h2, h3⟩
/-- what is fresh behind was fresh ahead -/
theorem Keep.free {H H' : Hp} {d n p : Addr} (s : Keep d H H') (h : Dr H' d n) (hp : H' p = none) : H p = none := by
  cases e : H p with
  | none => rfl
  | some o =>
    by_cases hd : p = d
    · rw [hd] at hp
      exact absurd hp h.ne
    · rw [s p o e hd] at hp
      cases hp
theorem Dr.mk {H : Hp} {d n : Addr} {ns : List Int} (hn : H n = some (.lst (ns.map V.int))) (hr : Rg 0 1000000 ns) (hl : ns.length ≤ 3780) (hd : H d = none) : Dr (L2.upd H d (.lst [.ref n, .int 0])) d n :=
  ⟨ns, 0, upd_same, by rw [upd_ne (ne_of_none hn hd)]; exact hn, hr, Int.le_refl _, hl⟩
/-- what a def that draws gives: a value of which P, the draws moved on -/
abbrev RetD (d n : Addr) (P : V → Prop) (H : Hp) (Q : VK) : Prop := ∀ v H', P v → Dr H' d n → Keep d H H' → Q v H'
abbrev RetG (d n : Addr) (P : V → Hp → Prop) (H : Hp) (Q : VK) : Prop := ∀ v H', P v H' → Dr H' d n → Keep d H H' → Q v H'
abbrev IsI (lo hi : Int) : V → Prop := fun v => ∃ z : Int, v = .int z ∧ lo ≤ z ∧ z < hi

def sp_law_mixed (K : PySem.W.Frag) : Sp := fun vs H Q _ => ∃ i k : Int, vs = [.int i, .int k] ∧ ∀ r : Int, 0 ≤ r → r < 2147483647 → Q (.int r) H
theorem ok_law_mixed (T : Txt K mg) : FnOk P w K mg base CX0 1 T.a_law_mixed T.fd_law_mixed ["number", "k"] (sp_law_mixed K) := by
  refine T.F_law_mixed.ok sc_law_mixed (fun vs H Q E h => ?_) (fun cdv A outer s H vs Q E hr h => ?_)
  · obtain ⟨i, k, rfl, _⟩ := h
    rfl
  · obtain ⟨i, k, rfl, q⟩ := h
    refine ⟨_, (pss_cons (ps_set (i := 2) sc_law_mixed.nd rfl (.inl rfl) (pe_op op_mod (pe_op op_add (pe_op op_add (pe_op op_mul (pv 0) pe_int) (pe_op op_mul (pv 1) pe_int)) pe_int) pe_int))
      (pss_one (ps_ret (pe_op op_mod (pe_op op_add (pe_op op_mul (pv 2) (pe_op op_add (pe_op op_fdiv (pv 2) pe_int) pe_int)) (pv 1)) pe_int)))), ?_⟩
    walk_at "start"
    walk_at "x"
    exact q _ (Int.emod_nonneg _ (by decide)) (Int.emod_lt_of_pos _ (by decide))


def sp_law_numbers (K : PySem.W.Frag) : Sp := fun vs H Q _ => ∃ (a : Addr) (ns : List Int), vs = [.ref a] ∧ SqL K H a (ns.map V.int) ∧ ns.length ≤ 63 ∧
  ∀ (p : Addr) (ms : List Int) (H' : Hp), H p = none → Same H H' → H' p = some (.lst (ms.map V.int)) → Rg 0 1000000 ms → ms.length ≤ 3780 → Q (.ref p) H'
/-- the numbers so far -/
def NumI (H : Hp) (p : Addr) (n : Nat) (H' : Hp) : Prop := ∃ ms : List Int, Same H H' ∧ H' p = some (.lst (ms.map V.int)) ∧ Rg 0 1000000 ms ∧ ms.length ≤ n
theorem NumI.app {H H' : Hp} {p : Addr} {n : Nat} (h : NumI H p n H') (hp : H p = none) (hn : n ≤ 100000) {R : VK} {z : Int} (h1 : 0 ≤ z) (h2 : z < 1000000) (q : ∀ H2, NumI H p (n + 1) H2 → R .non H2) : rAppend (.ref p) [.int z] H' R := by
  obtain ⟨ms, s, e, r, l⟩ := h
  refine x_app e (by rw [List.length_map]; omega) (q _ ⟨ms ++ [z], sput s hp, ?_, r.snoc h1 h2, ?_⟩)
  · rw [upd_same, List.map_append]; rfl
  · rw [List.length_append]; exact Nat.add_le_add_right l 1
theorem NumI.ty {K : PySem.W.Frag} {H H' : Hp} {p : Addr} {n : Nat} (h : NumI H p n H') {R : Prop} (q : R) : tyV K "list" (.ref p) H' ∧ R := by
  obtain ⟨ms, s, e, r, l⟩ := h
  exact x_tyL e q
theorem NumI.mono {H H' : Hp} {p : Addr} {n m : Nat} (h : NumI H p n H') (l : n ≤ m) : NumI H p m H' := by
  obtain ⟨ms, s, e, r, k⟩ := h
  exact ⟨ms, s, e, r, Nat.le_trans k l⟩
theorem ok_law_numbers (T : Txt K mg) : FnOk P w K mg base CX0 2 T.a_law_numbers T.fd_law_numbers ["script"] (sp_law_numbers K) := by
  refine T.F_law_numbers.ok sc_law_numbers (fun vs H Q E h => ?_) (fun cdv A outer s H vs Q E hr h => ?_)
  · obtain ⟨a, ns, rfl, _⟩ := h
    rfl
  · obtain ⟨a, ns, rfl, hS, hl, q⟩ := h
    refine ⟨_, (pss_cons (ps_set (i := 1) sc_law_numbers.nd rfl (.inl rfl) (pe_lst pa_nil))
      (pss_cons (ps_for PassesOwn.never rfl (pi_list (pv 0)) (pg_name (i := 2) sc_law_numbers.nd rfl (Or.inl rfl))
      (pss_one (ps_if (pt_cmpR op_ge (pv 2) (pe_op op_pow pe_int pe_int) (nomark _))
      (pss_cons (ps_set (i := 3) sc_law_numbers.nd rfl (.inl rfl) (pv 2))
      (pss_one (ps_for PassesOwn.never rfl (pi_range1 (by rfl) T.m_range (pa_cons pe_int pa_nil)) (pg_name (i := 4) sc_law_numbers.nd rfl (Or.inl rfl))
      (pss_one (ps_if (pt_cmpR op_gt (pv 3) pe_int (nomark _))
      (pss_cons (ps_expr (pe_bm PySem.F.plainAttrs_list PySem.F.slot_list_append PySem.F.type_list_append mt_append (pv 1) (pa_cons (pe_op op_mod (pv 3) pe_int) pa_nil)))
      (pss_one (ps_set (i := 3) sc_law_numbers.nd rfl (.inl rfl) (pe_op op_fdiv (pv 3) pe_int))))
      pss_nil)))))
      (pss_cons (ps_expr (pe_bm PySem.F.plainAttrs_list PySem.F.slot_list_append PySem.F.type_list_append mt_append (pv 1) (pa_cons (pe_op op_mod (pv 2) pe_int) pa_nil)))
      (pss_one (ps_for PassesOwn.never rfl (pi_range1 (by rfl) T.m_range (pa_cons pe_int pa_nil)) (pg_name (i := 4) sc_law_numbers.nd rfl (Or.inl rfl))
      (pss_one (ps_expr (pe_bm PySem.F.plainAttrs_list PySem.F.slot_list_append PySem.F.type_list_append mt_append (pv 1) (pa_cons (pe_op op_mod (pe_call (ok_law_mixed T) hr (by rfl) T.g_law_mixed T.F_law_mixed.kp T.b_law_mixed .nil pass0 (pa_cons (pe_call (ok_law_mixed T) hr (by rfl) T.g_law_mixed T.F_law_mixed.kp T.b_law_mixed .nil pass0 (pa_cons (pe_op op_mod (pv 2) pe_int) (pa_cons (pv 4) pa_nil))) (pa_cons (pe_op op_add (pv 4) pe_int) pa_nil))) pe_int) pa_nil))))))))))
      (pss_one (ps_ret (pv 1))))), ?_⟩
    walk_at "start"
    walk_at "x"
    refine ⟨Nat.zero_le _, fun p hp => ?_⟩
    walk_at "x"
    refine x_forL (p := a) (ns.map V.int) (fun i σ' H' => ∃ v2 v3 v4, σ' = [some (.ref a), some (.ref p), v2, v3, v4] ∧ NumI H p (60 * i) H') (fun R r => ⟨_, rfl, r⟩) ((same_upd hp).seq hS) ?_ ?_ ?_ ?_
    · exact ⟨none, none, none, rfl, [], same_upd hp, upd_same, .nil, Nat.le_refl _⟩
    · rintro i σ' H' hi ⟨v2, v3, v4, rfl, ms, s, _⟩
      exact s.seq hS
    · rintro i x σ' H' hx ⟨v2, v3, v4, rfl, hN⟩
      obtain ⟨z, hz, rfl⟩ := map_get hx
      have hi : i < 63 := by
        have := (List.getElem?_eq_some_iff.mp hz).1
        omega
      walk_at "x"
      refine x_ite (fun hc => ?_) (fun hc => ?_)
      · walk_at "x"
        refine x_forR1 60 (fun j σ' H' => ∃ r v4, σ' = [some (.ref a), some (.ref p), some (.int z), some (.int r), v4] ∧ NumI H p (60 * i + j) H') (fun R r => r) (by decide) (by decide) ⟨z, v4, rfl, hN⟩ ?_ ?_
        · rintro j σ' H2 hj ⟨r, v4, rfl, hN⟩
          walk_at "x"
          refine x_ite (fun hc => ?_) (fun hc => ?_)
          · walk_at "x"
            refine hN.ty ?_
            walk_at "x"
            refine hN.app hp (by omega) (Int.emod_nonneg _ (by decide)) (Int.emod_lt_of_pos _ (by decide)) fun H3 hN3 => ?_
            walk_at "x"
            exact ⟨_, _, rfl, hN3⟩
          · walk_at "x"
            exact ⟨r, _, rfl, hN.mono (by omega)⟩
        · rintro σ' H2 ⟨r, v4, rfl, hN⟩
          exact ⟨_, _, _, rfl, hN.mono (by show 60 * i + (60 : Int).toNat ≤ 60 * (i + 1); omega)⟩
      · walk_at "x"
        refine hN.ty ?_
        walk_at "x"
        refine hN.app hp (by omega) (Int.emod_nonneg _ (by decide)) (Int.emod_lt_of_pos _ (by decide)) fun H3 hN3 => ?_
        walk_at "x"
        refine x_forR1 5 (fun j σ' H' => ∃ v4, σ' = [some (.ref a), some (.ref p), some (.int z), v3, v4] ∧ NumI H p (60 * i + 1 + j) H') (fun R r => r) (by decide) (by decide) ⟨v4, rfl, hN3⟩ ?_ ?_
        · rintro j σ' H2 hj ⟨v4, rfl, hN⟩
          walk_at "x"
          refine hN.ty ?_
          walk_at "x"
          refine ⟨_, _, rfl, fun r h0 h1 => ?_⟩
          walk_at "x"
          refine ⟨_, _, rfl, fun r h0 h1 => ?_⟩
          walk_at "x"
          refine hN.app hp (by omega) (Int.emod_nonneg _ (by decide)) (Int.emod_lt_of_pos _ (by decide)) fun H3 hN3 => ?_
          walk_at "x"
          exact ⟨_, rfl, hN3⟩
        · rintro σ' H2 ⟨v4, rfl, hN⟩
          exact ⟨_, _, _, rfl, hN.mono (by show 60 * i + 1 + (5 : Int).toNat ≤ 60 * (i + 1); omega)⟩
    · rintro σ' H' ⟨v2, v3, v4, rfl, ms, s, e, r, l⟩
      walk_at "x"
      exact q p ms H' hp s e r (by rw [List.length_map] at l; omega)


def sp_law_draw (K : PySem.W.Frag) : Sp := fun vs H Q _ => ∃ (d n : Addr), vs = [.ref d] ∧ Dr H d n ∧ RetD d n (IsI 0 1000000) H Q
theorem ok_law_draw (T : Txt K mg) : FnOk P w K mg base CX0 2 T.a_law_draw T.fd_law_draw ["draws"] (sp_law_draw K) := by
  refine T.F_law_draw.ok sc_law_draw (fun vs H Q E h => ?_) (fun cdv A outer s H vs Q E hr h => ?_)
  · obtain ⟨d, n, rfl, _⟩ := h
    rfl
  · obtain ⟨d, n, rfl, hD, q⟩ := h
    have hn := hD.dn
    obtain ⟨ns, k, h1, h2, h3, h4, h5⟩ := hD
    have hD : Dr (upd H d (.lst [.ref n, .int (k + 1)])) d n := ⟨ns, k + 1, upd_same, by rw [upd_ne hn.symm]; exact h2, h3, by omega, h5⟩
    refine ⟨_, (pss_cons (ps_set (i := 1) sc_law_draw.nd rfl (.inl rfl) (pe_ix (r := rIxL K) ix_list (pv 0) pe_int (fun _ _ => rfl)))
      (pss_cons (ps_asg (pe_op op_add (pv 1) pe_int) (pg_sub (pv 0) pe_int set_list))
      (pss_cons (ps_if (pt_cmpR op_lt (pv 1) (pe_callB (id := "len") (r := rLen K) cr_len (by rfl) T.m_len PySem.boot_len (pa_cons (pe_ix (r := rIxL K) ix_list (pv 0) pe_int (fun _ _ => rfl)) pa_nil)) (nomark _))
      (pss_one (ps_ret (pe_ix (r := rIxL K) ix_list (pe_ix (r := rIxL K) ix_list (pv 0) pe_int (fun _ _ => rfl)) (pv 1) (fun _ _ => rfl))))
      pss_nil)
      (pss_cons (ps_set (i := 2) sc_law_draw.nd rfl (.inl rfl) (pe_op op_add pe_int (pv 1)))
      (pss_cons (ps_if (pt_cmpR op_gt (pe_callB (id := "len") (r := rLen K) cr_len (by rfl) T.m_len PySem.boot_len (pa_cons (pe_ix (r := rIxL K) ix_list (pv 0) pe_int (fun _ _ => rfl)) pa_nil)) pe_int (nomark _))
      (pss_one (ps_set (i := 2) sc_law_draw.nd rfl (.inl rfl) (pe_op op_add (pv 2) (pe_op op_mul pe_int (pe_ix (r := rIxL K) ix_list (pe_ix (r := rIxL K) ix_list (pv 0) pe_int (fun _ _ => rfl)) pe_int (fun _ _ => rfl))))))
      pss_nil)
      (pss_one (ps_ret (pe_op op_mod (pe_call (ok_law_mixed T) hr (by rfl) T.g_law_mixed T.F_law_mixed.kp T.b_law_mixed .nil pass0 (pa_cons (pe_call (ok_law_mixed T) hr (by rfl) T.g_law_mixed T.F_law_mixed.kp T.b_law_mixed .nil pass0 (pa_cons (pv 2) (pa_cons (pv 1) pa_nil))) (pa_cons pe_int pa_nil))) pe_int)))))))), ?_⟩
    walk_at "start"
    walk_at "x"
    refine x_ixL (sq_of h1) (show _ = some (V.int k) from rfl) ?_
    walk_at "x"
    refine x_subL (k := 1) h1 rfl ?_
    walk_at "x"
    have hd : (upd H d (HO.lst [.ref n, .int (k + 1)])) d = some (.lst [.ref n, .int (k + 1)]) := upd_same
    have hnn : (upd H d (HO.lst [.ref n, .int (k + 1)])) n = some (.lst (ns.map V.int)) := by rw [upd_ne hn.symm]; exact h2
    refine x_ixL (sq_of hd) (show _ = some (V.ref n) from rfl) ?_
    walk_at "x"
    refine x_len (sq_of hnn) ?_
    walk_at "x"
    rw [List.length_map]
    refine x_ite (fun hc => ?_) (fun hc => ?_)
    · walk_at "x"
      refine x_ixL (sq_of hd) (show _ = some (V.ref n) from rfl) ?_
      walk_at "x"
      obtain ⟨j, rfl⟩ : ∃ j : Nat, k = (j : Int) := ⟨k.toNat, by omega⟩
      have hj : j < ns.length := by omega
      refine x_ixL (v := .int ns[j]) (sq_of hnn) (atI_nat (by rw [List.getElem?_map, List.getElem?_eq_getElem hj]; rfl)) ?_
      exact q _ _ ⟨_, rfl, h3 _ (List.getElem_mem hj)⟩ hD keep_upd
    · walk_at "x"
      refine x_ixL (sq_of hd) (show _ = some (V.ref n) from rfl) ?_
      walk_at "x"
      refine x_len (sq_of hnn) ?_
      walk_at "x"
      rw [List.length_map]
      refine x_ite (fun hc => ?_) (fun hc => ?_)
      · walk_at "x"
        refine x_ixL (sq_of hd) (show _ = some (V.ref n) from rfl) ?_
        walk_at "x"
        have hj : 0 < ns.length := by omega
        refine x_ixL (v := .int ns[0]) (sq_of hnn) (atI_nat (j := 0) (by rw [List.getElem?_map, List.getElem?_eq_getElem hj]; rfl)) ?_
        walk_at "x"
        refine ⟨_, _, rfl, fun r h0 h1 => ?_⟩
        walk_at "x"
        refine ⟨_, _, rfl, fun r h0 h1 => ?_⟩
        walk_at "x"
        exact q _ _ ⟨_, rfl, Int.emod_nonneg _ (by decide), Int.emod_lt_of_pos _ (by decide)⟩ hD keep_upd
      · walk_at "x"
        refine ⟨_, _, rfl, fun r h0 h1 => ?_⟩
        walk_at "x"
        refine ⟨_, _, rfl, fun r h0 h1 => ?_⟩
        walk_at "x"
        exact q _ _ ⟨_, rfl, Int.emod_nonneg _ (by decide), Int.emod_lt_of_pos _ (by decide)⟩ hD keep_upd



/-- what inverse_of gives -/
def InvV (n m : Int) (v : V) : Prop := (Int.gcd n m ≠ 1 → v = .non) ∧ (Int.gcd n m = 1 → ∃ x : Int, v = .int x ∧ 0 ≤ x ∧ x < m ∧ x * n % m = 1)
def sp_inverse_of (K : PySem.W.Frag) : Sp := fun vs H Q _ => ∃ n m : Int, vs = [.int n, .int m] ∧ 2 ≤ m ∧ m ≤ 1000000000 ∧ ∀ v H', InvV n m v → Same H H' → Q v H'
theorem ok_inverse_of (T : Txt K mg) : FnOk P w K mg base CX0 1 T.a_inverse_of T.fd_inverse_of ["n", "modulus"] (sp_inverse_of K) := by
  refine T.F_inverse_of.ok sc_inverse_of (fun vs H Q E h => ?_) (fun cdv A outer s H vs Q E hr h => ?_)
  · obtain ⟨n, m, rfl, _⟩ := h
    rfl
  · obtain ⟨n, m, rfl, hm2, hm9, q⟩ := h
    refine ⟨_, (pss_cons (ps_par (i := 2) (j := 3) rfl sc_inverse_of.nd rfl rfl (by decide) rfl rfl (pa_cons (pv 1) (pa_cons (pe_op op_mod (pv 0) (pv 1)) pa_nil)) (by rfl))
      (pss_cons (ps_asg (pe_tup (pa_cons pe_int (pa_cons pe_int pa_nil))) (pg_tup rfl (pgs_cons (pg_name (i := 4) sc_inverse_of.nd rfl (Or.inl rfl)) (pgs_cons (pg_name (i := 5) sc_inverse_of.nd rfl (Or.inl rfl)) pgs_nil))))
      (pss_cons (ps_while PassesOwn.never (pt_cmpR op_ne (pv 3) pe_int (nomark _))
      (pss_cons (ps_set (i := 6) sc_inverse_of.nd rfl (.inl rfl) (pe_op op_fdiv (pv 2) (pv 3)))
      (pss_cons (ps_par (i := 2) (j := 3) rfl sc_inverse_of.nd rfl rfl (by decide) rfl rfl (pa_cons (pv 3) (pa_cons (pe_op op_sub (pv 2) (pe_op op_mul (pv 6) (pv 3))) pa_nil)) (by rfl))
      (pss_one (ps_par (i := 4) (j := 5) rfl sc_inverse_of.nd rfl rfl (by decide) rfl rfl (pa_cons (pv 5) (pa_cons (pe_op op_sub (pv 4) (pe_op op_mul (pv 6) (pv 5))) pa_nil)) (by rfl))))))
      (pss_one (ps_ret (pe_ifExp (pt_cmpR op_eq (pv 2) pe_int (nomark _)) (pe_op op_mod (pv 4) (pv 1)) pe_non)))))), ?_⟩
    walk_at "start"
    walk_at "x"
    have r0 := Int.emod_nonneg n (show m ≠ 0 by omega)
    have r1 := Int.emod_lt_of_pos n (show 0 < m by omega)
    refine ⟨by show 2 ≤ sizeLine; decide, fun p hp => x_gTup2 (st_of upd_same) ?_⟩
    walk_at "x"
    refine x_while (fun k σ' H' => Same H H' ∧ ∃ l r lf rf v6, σ' = [some (.int n), some (.int m), some (.int l), some (.int r), some (.int lf), some (.int rf), v6] ∧ k = r.toNat ∧ 0 ≤ r ∧ r < l ∧ l ≤ 1000000000 ∧ Int.gcd l r = Int.gcd n m ∧ (m ∣ lf * n - l) ∧ (m ∣ rf * n - r)) (n % m).toNat ?_ ?_
    · refine ⟨same_upd hp, _, _, _, _, _, rfl, rfl, r0, r1, hm9, ?_, ?_, ?_⟩
      · rw [gcd_step]
      · exact ⟨-1, by omega⟩
      · refine ⟨n / m, ?_⟩
        have := Int.mul_ediv_add_emod n m
        omega
    · rintro k σ' H' ⟨hs, l, r, lf, rf, v6, rfl, rfl, hr0, hrl, hl, hg, hd1, hd2⟩
      refine ⟨!decide (r = 0), fun R z => by walk_at "x"; exact z, fun hb => ?_, fun hb => ?_⟩
      · have hr : r ≠ 0 := by simpa using hb
        have hd0 : 0 ≤ l / r := Int.ediv_nonneg (by omega) hr0
        have hd3 : l / r ≤ l := Int.ediv_le_self _ (by omega)
        have e : l - l / r * r = l % r := by rw [Int.emod_def, Int.mul_comm r]
        have s0 := Int.emod_nonneg l hr
        have s1 := Int.emod_lt_of_pos l (show 0 < r by omega)
        walk_at "x"
        refine ⟨(l % r).toNat, by omega, hs, r, l - l / r * r, rf, lf - l / r * rf, _, rfl, by rw [e], by omega, by omega, by omega, by rw [e, gcd_step]; exact hg, hd2, ?_⟩
        obtain ⟨u, hu⟩ := hd1
        obtain ⟨w', hw⟩ := hd2
        refine ⟨u - l / r * w', ?_⟩
        have e2 : (lf - l / r * rf) * n = lf * n - l / r * (rf * n) := by rw [Int.sub_mul, Int.mul_assoc]
        have e3 : rf * n = r + m * w' := by omega
        rw [e2, e3, Int.mul_add, Int.mul_sub]
        have e4 : l / r * (m * w') = m * (l / r * w') := by
          rw [← Int.mul_assoc, ← Int.mul_assoc, Int.mul_comm (l / r) m]
        omega
      · have hr : r = 0 := by simpa using hb
        subst hr
        rw [Int.gcd_zero_right] at hg
        walk_at "x"
        have hl0 : ((Int.gcd n m : Nat) : Int) = l := by omega
        refine x_ite (fun hc => ?_) (fun hc => ?_)
        · walk_at "x"
          refine q _ _ ⟨fun h => absurd (show Int.gcd n m = 1 by omega) h, fun _ => ⟨_, rfl, Int.emod_nonneg _ (by omega), Int.emod_lt_of_pos _ (by omega), ?_⟩⟩ hs
          rw [Int.mul_emod, Int.emod_emod, ← Int.mul_emod]
          obtain ⟨u, hu⟩ := hd1
          have e : lf * n = 1 + m * u := by omega
          rw [e, Int.add_mul_emod_self_left]
          exact Int.emod_eq_of_lt (by decide) (by omega)
        · walk_at "x"
          exact q _ _ ⟨fun _ => rfl, fun h => absurd (show l = 1 by omega) hc⟩ hs


end
end Br
namespace Br
open PySem PySem.Spec PyProof.Rows L2
local macro_rules | `(tactic| walk_at "x1") => `(tactic| (with_reducible first
  | refine Br.x_seq ?_ | refine Br.x_set ?_ | refine Br.x_asg ?_ | refine Br.x_next ?_ | refine Br.x_ret ?_ | refine Br.x_retN ?_ | refine Br.x_drop ?_ | refine Br.x_if ?_ | refine Br.x_brk ?_ | refine Br.x_cont ?_
  | refine Br.x_c ?_ | refine Br.x_op ?_ | refine Br.x_un ?_ | refine Br.x_I0 ?_ | refine Br.x_U ?_ | refine Br.x_EqI ?_ | refine Br.x_NeI ?_ | refine Br.x_EqB ?_ | refine Br.x_iN ?_ | refine Br.x_int1 ?_ | refine Br.x_min2 ?_ | refine Br.x_max2 ?_ | refine Br.x_nN ?_ | refine Br.x_ifE ?_
  | refine Br.x_test (b := ()) ?_ | refine Br.x_tB ?_ | refine Br.x_bl ?_ | refine Br.x_and ?_ | refine Br.x_or ?_ | refine Br.x_not ?_ | refine Br.x_andV ?_ | refine Br.x_orV ?_ | refine Br.x_notV ?_ | refine Br.x_blP ?_
  | refine Br.x_nil ?_ | refine Br.x_cons ?_ | refine Br.x_call ?_ | refine Br.x_CB ?_ | refine Br.x_BM ?_ | refine Br.x_tup ?_ | refine Br.x_lst ?_ | refine Br.x_chain ?_ | refine Br.x_par ?_ | refine Br.x_gSub ?_ | refine Br.x_gName ?_ | refine Br.x_fld ?_ | refine Br.x_fldS ?_ | refine Br.x_match ?_ | refine Br.x_else ?_ | refine Br.x_noCase ?_))
local macro_rules | `(tactic| walk_at "xv") => `(tactic| ((with_reducible refine' Br.x_var ?hvar ?_); (case hvar => rfl)))
local macro_rules | `(tactic| walk_at "xd") => `(tactic| (dsimp only [List.set_cons_zero, List.set_cons_succ, List.cons_append, List.nil_append, List.append_nil]))
local macro_rules | `(tactic| walk_at "xi") => `(tactic| ((with_reducible refine Br.x_I ?hside ?_); (case hside => first | exact Br.mul_r (by decide) (by decide) | exact Br.mul_l (by decide) (by decide) | exact Br.mul_l (by omega) (by omega) | exact Br.mul_r (by omega) (by omega) | (show (0 : Int) < _; first | decide | omega) | exact ⟨by decide, by decide⟩ | exact ⟨by omega, by omega⟩ | exact ⟨by decide, by decide, by decide⟩)))
local macro_rules | `(tactic| walk_at "x") => `(tactic| (repeat (first | walk_at "x1" | walk_at "xv" | walk_at "xi" | walk_at "xd")))
local macro_rules | `(tactic| walk_at "start") => `(tactic| (simp only [L2.start, List.map_cons, List.map_nil, List.length_cons, List.length_nil, Nat.reduceAdd, Nat.reduceSub, List.replicate, List.cons_append, List.nil_append, List.append_nil]))
local macro_rules | `(tactic| walk_at "isi") => `(tactic| first
  | refine Br.x_isi (b := true) (.base (.int _)) (by decide +kernel) ?_ | refine Br.x_isi (b := false) (.base (.int _)) (by decide +kernel) ?_
  | refine Br.x_isi (b := true) (.base (.bl _)) (by decide +kernel) ?_ | refine Br.x_isi (b := false) (.base (.bl _)) (by decide +kernel) ?_
  | refine Br.x_isi (b := false) (.base .non) (by decide +kernel) ?_
  | refine Br.x_isi (b := true) (.base (.str _)) (by decide +kernel) ?_ | refine Br.x_isi (b := false) (.base (.str _)) (by decide +kernel) ?_
  | refine Br.x_isi (b := true) (.base (.tup (by assumption))) (by decide +kernel) ?_ | refine Br.x_isi (b := false) (.base (.tup (by assumption))) (by decide +kernel) ?_
  | refine Br.x_isi (b := true) (.base (.lst (by assumption))) (by decide +kernel) ?_ | refine Br.x_isi (b := false) (.base (.lst (by assumption))) (by decide +kernel) ?_)
local macro_rules | `(tactic| walk_at "f") => `(tactic| (refine L2.iteF ?_; walk_at "x"))
local macro_rules | `(tactic| walk_at "t") => `(tactic| (refine L2.iteT ?_; walk_at "x"))
local macro_rules | `(tactic| walk_at "is") => `(tactic| (walk_at "isi"; walk_at "x"))
local macro_rules | `(tactic| walk_at "xb") => `(tactic| (simp only [Br.bindS, List.set_cons_zero, List.set_cons_succ]; walk_at "x"))

section
variable {P : Program} {w : World} {K : PySem.W.Frag} {mg : Str → Option Value} {base : Heap}

open Br.F

/-- the bottoms of the shares -/
def sp_products_of_differences (K : PySem.W.Frag) : Sp := fun vs H Q _ => ∃ n p : Nat, vs = [.int (n : Int), .int (p : Int)] ∧ 1 ≤ n ∧ n ≤ 1000 ∧ 2 ≤ p ∧ p ≤ 1000000000 ∧
  ∀ (a : Addr) (bs : List Int) (H' : Hp), H a = none → Same H H' → H' a = some (.lst (bs.map V.int)) → bs.length = n → (∀ (i : Nat) b, bs[i]? = some b → (p : Int) ∣ b - Ab (i : Int) i n) → Q (.ref a) H'
theorem fct_one : fct 1 = 1 := rfl
theorem getLast_at {fs : List Int} {j : Nat} (h : fs.length = j + 1) : ∃ z, fs[j]? = some z ∧ fs = fs.dropLast ++ [z] := by
  have hne : fs ≠ [] := fun e => by rw [e] at h; cases h
  refine ⟨fs.getLast hne, ?_, (List.dropLast_concat_getLast hne).symm⟩
  rw [List.getLast_eq_getElem, List.getElem?_eq_getElem (by omega)]
  congr 1
  have e : fs.length - 1 = j := by omega
  simp only [e]
theorem ok_products_of_differences (T : Txt K mg) : FnOk P w K mg base CX0 1 T.a_products_of_differences T.fd_products_of_differences ["size", "prime"] (sp_products_of_differences K) := by
  refine T.F_products_of_differences.ok sc_products_of_differences (fun vs H Q E h => ?_) (fun cdv A outer s H vs Q E hr h => ?_)
  · obtain ⟨n, p, rfl, _⟩ := h
    rfl
  · obtain ⟨n, p, rfl, hn1, hn2, hp1, hp2, q⟩ := h
    refine ⟨_, (pss_cons (ps_set (i := 2) sc_products_of_differences.nd rfl (.inl rfl) (pe_lst (pa_cons pe_int pa_nil)))
      (pss_cons (ps_for PassesOwn.never rfl (pi_range2 (by rfl) T.m_range (pa_cons pe_int (pa_cons (pv 0) pa_nil))) (pg_name (i := 3) sc_products_of_differences.nd rfl (Or.inl rfl))
      (pss_one (ps_expr (pe_bm PySem.F.plainAttrs_list PySem.F.slot_list_append PySem.F.type_list_append mt_append (pv 2) (pa_cons (pe_op op_mod (pe_op op_mul (pe_ix (r := rIxL K) ix_list (pv 2) (pe_un un_neg pe_int) (fun _ _ => rfl)) (pv 3)) (pv 1)) pa_nil)))))
      (pss_cons (ps_set (i := 4) sc_products_of_differences.nd rfl (.inl rfl) (pe_lst pa_nil))
      (pss_cons (ps_for PassesOwn.never rfl (pi_range1 (by rfl) T.m_range (pa_cons (pv 0) pa_nil)) (pg_name (i := 5) sc_products_of_differences.nd rfl (Or.inl rfl))
      (pss_cons (ps_set (i := 6) sc_products_of_differences.nd rfl (.inl rfl) (pe_op op_sub (pe_op op_sub (pv 0) pe_int) (pv 5)))
      (Evl.pss_cut (ps_set (i := 7) sc_products_of_differences.nd rfl (.inl rfl) (pe_ifExp (pt_cmpR op_eq (pe_op op_mod (pv 6) pe_int) pe_int (nomark _)) pe_int (pe_un un_neg pe_int)))
      (pss_one (ps_expr (pe_bm PySem.F.plainAttrs_list PySem.F.slot_list_append PySem.F.type_list_append mt_append (pv 4) (pa_cons (pe_op op_mul (pe_op op_mul (pv 7) (pe_ix (r := rIxL K) ix_list (pv 2) (pv 5) (fun _ _ => rfl))) (pe_ix (r := rIxL K) ix_list (pv 2) (pv 6) (fun _ _ => rfl))) pa_nil)))))))
      (pss_one (ps_ret (pv 4))))))), ?_⟩
    walk_at "start"
    walk_at "x"
    refine ⟨by show 1 ≤ sizeLine; decide, fun a ha => ?_⟩
    walk_at "x"
    -- the factorials
    refine x_forR2 1 (n : Int) (fun i σ' H' => ∃ v3, σ' = [some (.int (n : Int)), some (.int (p : Int)), some (.ref a), v3, none, none, none, none] ∧ Same H H' ∧ ∃ fs : List Int, H' a = some (.lst (fs.map V.int)) ∧ fs.length = i + 1 ∧ ∀ (j : Nat) z, fs[j]? = some z → 0 ≤ z ∧ z < p ∧ (p : Int) ∣ z - fct j)
      (fun R r => r) (fun R r => ⟨_, rfl, r⟩) (by decide) (by decide) (by omega) (by omega) ?_ ?_ ?_
    · refine ⟨none, rfl, same_upd ha, [1], upd_same, rfl, fun j z hz => ?_⟩
      match j, hz with
      | 0, hz =>
        have e : z = 1 := (Option.some.inj hz).symm
        rw [e]
        exact ⟨by decide, by omega, 0, rfl⟩
      | j + 1, hz => simp at hz
    · rintro i σ' H' hi ⟨v3, rfl, hs, fs, hf, hl, hz⟩
      obtain ⟨z, gz, ez⟩ := getLast_at hl
      obtain ⟨z0, z1, zd⟩ := hz i z gz
      walk_at "x"
      refine x_tyL hf ?_
      walk_at "x"
      refine x_ixL (v := .int z) (sq_of hf) (by rw [ez, List.map_append]; exact atI_last _ _) ?_
      walk_at "x"
      refine x_app hf (by rw [List.length_map]; omega) ?_
      walk_at "x"
      refine ⟨_, rfl, sput hs ha, fs ++ [z * (1 + (i : Int)) % (p : Int)], by rw [upd_same, List.map_append]; rfl, by rw [List.length_append, hl]; rfl, fun j y hy => ?_⟩
      by_cases hj : j < fs.length
      · rw [List.getElem?_append_left hj] at hy
        exact hz j y hy
      · rw [List.getElem?_append_right (by omega)] at hy
        have ej : j = i + 1 := by
          have := (List.getElem?_eq_some_iff.mp hy).1
          simp at this
          omega
        subst ej
        rw [hl, Nat.sub_self] at hy
        have e : y = z * (1 + (i : Int)) % (p : Int) := (Option.some.inj hy).symm
        rw [e]
        refine ⟨Int.emod_nonneg _ (by omega), Int.emod_lt_of_pos _ (by omega), ?_⟩
        obtain ⟨u, hu⟩ := zd
        have h4 := Int.mul_ediv_add_emod (z * (1 + (i : Int))) p
        refine ⟨u * ((i : Int) + 1) - z * (1 + (i : Int)) / (p : Int), ?_⟩
        show _ - fct i * ((i : Int) + 1) = _
        have ez : z = fct i + p * u := by omega
        grind
    rintro σ' H1 ⟨v3, rfl, hs, fs, hf, hl, hz⟩
    have hl : fs.length = n := by omega
    walk_at "x"
    refine ⟨Nat.zero_le _, fun b hb => ?_⟩
    have hba : a ≠ b := ne_of_none hf hb
    walk_at "x"
    refine x_forR1 (n : Int) (fun i σ' H' => ∃ v5 v6 v7, σ' = [some (.int (n : Int)), some (.int (p : Int)), some (.ref a), v3, some (.ref b), v5, v6, v7] ∧ Same H1 H' ∧ ∃ bs : List Int, H' b = some (.lst (bs.map V.int)) ∧ bs.length = i ∧ ∀ (j : Nat) z, bs[j]? = some z → (p : Int) ∣ z - Ab (j : Int) j n)
      (fun R r => ⟨_, rfl, r⟩) (by omega) (by omega) ⟨none, none, none, rfl, same_upd hb, [], upd_same, rfl, fun j z h => by simp at h⟩ ?_ ?_
    · rintro i σ' H' hi ⟨v5, v6, v7, rfl, hs', bs, hB, hbl, hbz⟩
      have hi : i < n := by omega
      have hf' : H' a = some (.lst (fs.map V.int)) := hs' _ _ hf
      obtain ⟨x, gx⟩ : ∃ x, fs[i]? = some x := ⟨_, List.getElem?_eq_getElem (by omega)⟩
      obtain ⟨y, gy⟩ : ∃ y, fs[n - 1 - i]? = some y := ⟨_, List.getElem?_eq_getElem (by omega)⟩
      obtain ⟨x0, x1, xd⟩ := hz i x gx
      obtain ⟨y0, y1, yd⟩ := hz _ y gy
      have key : (p : Int) ∣ sg (n - 1 - i) * x * y - Ab (i : Int) i n := by
        have e : n = i + 1 + (n - 1 - i) := by omega
        have e2 : Ab (i : Int) i n = fct i * (sg (n - 1 - i) * fct (n - 1 - i)) := by
          have := Ab_hi (at_ := i) (n - 1 - i)
          rw [← e] at this
          exact this
        rw [e2]
        obtain ⟨u, hu⟩ := xd
        obtain ⟨v, hv⟩ := yd
        have e3 : x = fct i + p * u := by omega
        have e4 : y = fct (n - 1 - i) + p * v := by omega
        rw [e3, e4]
        refine ⟨sg (n - 1 - i) * (u * (fct (n - 1 - i) + p * v) + fct i * v), ?_⟩
        grind
      have hsg : sg (n - 1 - i) = 1 ∨ sg (n - 1 - i) = -1 := by unfold sg; split <;> simp
      have ea : ((n : Int) - 1 - (i : Int)) = ((n - 1 - i : Nat) : Int) := by omega
      walk_at "x"
      rw [ea]
      refine x_cut (fun σ2 H2 => H2 = H' ∧ ∃ s : Int, σ2 = [some (.int (n : Int)), some (.int (p : Int)), some (.ref a), v3, some (.ref b), some (.int (i : Int)), some (.int ((n - 1 - i : Nat) : Int)), some (.int s)] ∧ s = sg (n - 1 - i)) ?_ ?_
      · walk_at "x"
        refine x_ite (fun hc => ?_) (fun hc => ?_)
        · walk_at "x"
          exact ⟨rfl, _, rfl, by unfold sg; rw [if_pos (by omega)]⟩
        · walk_at "x"
          exact ⟨rfl, _, rfl, by unfold sg; rw [if_neg (by omega)]⟩
      · rintro σ2 H2 ⟨rfl, s, rfl, es⟩
        have s1 : s = 1 ∨ s = -1 := by rw [es]; exact hsg
        walk_at "x"
        refine x_tyL hB ?_
        walk_at "x"
        refine x_ixL (v := .int x) (sq_of hf') (atI_nat (by rw [List.getElem?_map, gx]; rfl)) ?_
        walk_at "x"
        refine x_ixL (v := .int y) (sq_of hf') (atI_nat (by rw [List.getElem?_map, gy]; rfl)) ?_
        walk_at "x"
        refine x_app hB (by rw [List.length_map]; omega) ?_
        walk_at "x"
        refine ⟨_, _, _, rfl, sput hs' hb, bs ++ [s * x * y], by rw [upd_same, List.map_append]; rfl, by rw [List.length_append, hbl]; rfl, fun j w hw => ?_⟩
        by_cases hj : j < bs.length
        · rw [List.getElem?_append_left hj] at hw
          exact hbz j w hw
        · rw [List.getElem?_append_right (by omega)] at hw
          have ej : j = i := by
            have := (List.getElem?_eq_some_iff.mp hw).1
            simp at this
            omega
          subst ej
          rw [hbl, Nat.sub_self] at hw
          have e : w = s * x * y := (Option.some.inj hw).symm
          rw [e, es]
          exact key
    · rintro σ' H' ⟨v5, v6, v7, rfl, hs', bs, hB, hbl, hbz⟩
      walk_at "x"
      exact q b bs H' (sfree hs hb) (hs.trans hs') hB (by omega) hbz



def sp_shares (K : PySem.W.Frag) : Sp := fun vs H Q _ => ∃ (n p : Nat) (x : Int), vs = [.int (n : Int), .int (p : Int), .int x] ∧ 1 ≤ n ∧ n ≤ 1000 ∧ IsPrime p ∧ n ≤ p ∧ p ≤ 1000000000 ∧ 0 ≤ x ∧ x < p ∧
  ∀ (a : Addr) (rs : List Int) (H' : Hp), H a = none → Same H H' → H' a = some (.lst (rs.map V.int)) → rs.length = n → (∀ (i : Nat) r, rs[i]? = some r → Bas p n i x r) → Q (.ref a) H'
theorem ok_shares (T : Txt K mg) : FnOk P w K mg base CX0 2 T.a_shares T.fd_shares ["size", "prime", "x"] (sp_shares K) := by
  refine T.F_shares.ok sc_shares (fun vs H Q E h => ?_) (fun cdv A outer s H vs Q E hr h => ?_)
  · obtain ⟨n, p, x, rfl, _⟩ := h
    rfl
  · obtain ⟨n, p, x, rfl, hn1, hn2, hp, hnp, hp9, hx0, hx1, q⟩ := h
    have hp2 := hp.1
    refine ⟨_, (pss_cons (ps_if (pt_cmpR op_lt (pv 2) (pv 0) (nomark _))
      (pss_one (ps_ret (pe_lc (own := [("at", 3)]) (g := gName 3) (tt := tYes) rfl sc_shares.nd (pi_range1 (by rfl) T.m_range (pa_cons (pv 0) pa_nil)) (blkOk_by (N := N_shares) (sc := defScope s_shares) (by decide +kernel)) (fun _ _ _ _ _ => (pg_name (i := 3) sc_shares.nd rfl (Or.inl rfl))) (fun _ _ _ _ _ => pts_nil) (fun _ _ _ _ _ => (pe_ifExp (pt_cmpR op_eq (pv 3) (pv 2) (nomark _)) pe_int pe_int)))))
      pss_nil)
      (pss_cons (ps_set (i := 4) sc_shares.nd rfl (.inl rfl) pe_int)
      (pss_cons (ps_for PassesOwn.never rfl (pi_range1 (by rfl) T.m_range (pa_cons (pv 0) pa_nil)) (pg_name (i := 3) sc_shares.nd rfl (Or.inl rfl))
      (pss_one (ps_set (i := 4) sc_shares.nd rfl (.inl rfl) (pe_op op_mod (pe_op op_mul (pv 4) (pe_op op_sub (pv 2) (pv 3))) (pv 1)))))
      (pss_cons (ps_set (i := 5) sc_shares.nd rfl (.inl rfl) (pe_lst pa_nil))
      (pss_cons (ps_for PassesOwn.never rfl (pi_enum (by rfl) T.m_enumerate (pa_cons (pe_call (ok_products_of_differences T) hr (by rfl) T.g_products_of_differences T.F_products_of_differences.kp T.b_products_of_differences .nil pass0 (pa_cons (pv 0) (pa_cons (pv 1) pa_nil))) pa_nil)) (pg_tup rfl (pgs_cons (pg_name (i := 3) sc_shares.nd rfl (Or.inl rfl)) (pgs_cons (pg_name (i := 6) sc_shares.nd rfl (Or.inl rfl)) pgs_nil)))
      (pss_one (ps_expr (pe_bm PySem.F.plainAttrs_list PySem.F.slot_list_append PySem.F.type_list_append mt_append (pv 5) (pa_cons (pe_op op_mod (pe_op op_mul (pv 4) (pe_call (ok_inverse_of T) hr (by rfl) T.g_inverse_of T.F_inverse_of.kp T.b_inverse_of .nil pass0 (pa_cons (pe_op op_mul (pe_op op_sub (pv 2) (pv 3)) (pv 6)) (pa_cons (pv 1) pa_nil)))) (pv 1)) pa_nil)))))
      (pss_one (ps_ret (pv 5)))))))), ?_⟩
    walk_at "start"
    walk_at "x"
    refine x_ite (fun hc => ?_) (fun hc => ?_)
    · walk_at "x"
      obtain ⟨xn, rfl⟩ : ∃ xn : Nat, x = (xn : Int) := ⟨x.toNat, by omega⟩
      refine x_lcR1 (n : Int) (fun a i H' => Same H H' ∧ ∃ rs : List Int, H' a = some (.lst (rs.map V.int)) ∧ rs.length = i ∧ ∀ (j : Nat) r, rs[j]? = some r → Bas p n j (xn : Int) r) (fun R r => ⟨_, rfl, r⟩) (by omega) (by omega) (fun a ha => ⟨same_upd ha, [], upd_same, rfl, fun j r h => by simp at h⟩) (fun x => rfl) ?_ ?_
      · rintro a i H' ha hi ⟨hs, rs, hr, hl, hb⟩
        walk_at "x"
        have hB := Bas.ind (p := p) (n := n) (at_ := i) (x := xn) hp (by omega)
        refine x_ite (fun he => ?_) (fun he => ?_)
        · rw [if_pos (by omega)] at hB
          walk_at "x"
          refine ⟨_, hr, Nat.lt_of_lt_of_le (show _ < 100000 by rw [List.length_map]; omega) (by decide), sput hs ha, rs ++ [1], map_app, by rw [List.length_append, hl]; rfl, fun j r h => ?_⟩
          rcases snoc_at hl h with ⟨_, h⟩ | ⟨rfl, rfl⟩
          · exact hb j r h
          · exact hB
        · rw [if_neg (by omega)] at hB
          walk_at "x"
          refine ⟨_, hr, Nat.lt_of_lt_of_le (show _ < 100000 by rw [List.length_map]; omega) (by decide), sput hs ha, rs ++ [0], map_app, by rw [List.length_append, hl]; rfl, fun j r h => ?_⟩
          rcases snoc_at hl h with ⟨_, h⟩ | ⟨rfl, rfl⟩
          · exact hb j r h
          · exact hB
      · rintro a H' ha ⟨hs, rs, hr, hl, hb⟩
        exact q a rs H' ha hs hr (by omega) hb
    · walk_at "x"
      refine x_forR1 (n : Int) (fun i σ' H' => H = H' ∧ ∃ v3 t, σ' = [some (.int (n : Int)), some (.int (p : Int)), some (.int x), v3, some (.int t), none, none] ∧ 0 ≤ t ∧ t < p ∧ (p : Int) ∣ t - Tp x i) (fun R r => ⟨_, rfl, r⟩) (by omega) (by omega) ⟨rfl, none, 1, rfl, by decide, by omega, 0, rfl⟩ ?_ ?_
      · rintro i σ' H' hi ⟨rfl, v3, t, rfl, t0, t1, u, hu⟩
        walk_at "x"
        refine ⟨rfl, _, _, rfl, Int.emod_nonneg _ (by omega), Int.emod_lt_of_pos _ (by omega), ?_⟩
        have h4 := Int.mul_ediv_add_emod (t * (x - (i : Int))) p
        refine ⟨u * (x - (i : Int)) - t * (x - (i : Int)) / (p : Int), ?_⟩
        show _ - Tp x i * (x - (i : Int)) = _
        have et : t = Tp x i + p * u := by omega
        grind
      rintro σ' H' ⟨rfl, v3, t, rfl, t0, t1, ht⟩
      walk_at "x"
      refine ⟨Nat.zero_le _, fun a ha => ?_⟩
      walk_at "x"
      refine x_for ?_
      unfold iEnum
      walk_at "x"
      refine ⟨n, p, rfl, hn1, hn2, hp2, hp9, fun b bs H2 hb hs2 hB hbl hbz => ?_⟩
      walk_at "x"
      have hab : a ≠ b := ne_of_none upd_same hb
      have hs0 : Same H H2 := (same_upd ha).trans hs2
      refine ⟨b, bs.map V.int, rfl, sq_of hB, for_it (D := ⟨_, Q, fun _ _ => False, fun _ _ => False⟩) (walk_enum (K := K) (xs := bs.map V.int)) (fun i σ' H' => ∃ v3 v6, σ' = [some (.int (n : Int)), some (.int (p : Int)), some (.int x), v3, some (.int t), some (.ref a), v6] ∧ Same H H' ∧ H' b = some (.lst (bs.map V.int)) ∧ ∃ rs : List Int, H' a = some (.lst (rs.map V.int)) ∧ rs.length = i ∧ ∀ (j : Nat) r, rs[j]? = some r → Bas p n j x r) ⟨_, _, rfl, hs0, hB, [], hs2 _ _ upd_same, rfl, fun j r h => by simp at h⟩ (fun i σ' H' _ z => by
        obtain ⟨_, _, _, _, e, _⟩ := z
        exact sq_of e) ?_ ?_⟩
      · rintro i _ σ' H' H3 hi ⟨v3, v6, rfl, hs, hB, rs, hr, hrl, hrz⟩ ⟨c, u, v, rfl, hc, rfl, gu, gv⟩
        cases gu
        obtain ⟨y, gy, rfl⟩ := map_get gv
        have hi : i < n := by rw [List.length_map] at hi; omega
        refine x_gTup2 (st_of upd_same) ?_
        have hca : a ≠ c := ne_of_none hr hc
        have hcb : b ≠ c := ne_of_none hB hc
        have hr' : (upd H' c (.tup [.int (i : Int), .int y])) a = some (.lst (rs.map V.int)) := by rw [upd_ne hca]; exact hr
        have hB' : (upd H' c (.tup [.int (i : Int), .int y])) b = some (.lst (bs.map V.int)) := by rw [upd_ne hcb]; exact hB
        have hs' := sput (o := .tup [.int (i : Int), .int y]) hs (sfree hs hc)
        walk_at "x"
        refine x_tyL hr' ?_
        walk_at "x"
        refine ⟨(x - (i : Int)) * y, (p : Int), rfl, by omega, by omega, fun v H4 hv hs4 => ?_⟩
        have hy := hbz i y gy
        have hcop : Int.gcd ((x - (i : Int)) * y) (p : Int) = 1 := by
          have hnd : ¬ (p : Int) ∣ (x - (i : Int)) * y := fun hd => by
            rcases hp.mulI hd with h1 | h1
            · have := small_dvd h1 (by omega) (by omega)
              omega
            · exact Ab_own hp hi hnp (by
                have e : Ab (i : Int) i n = y - (y - Ab (i : Int) i n) := by omega
                rw [e]
                exact Int.dvd_sub h1 hy)
          have h1 : ¬ p ∣ ((x - (i : Int)) * y).natAbs := fun h => hnd (Int.ofNat_dvd_left.mpr h)
          have h2 := hp.coprime h1
          show Nat.gcd ((x - (i : Int)) * y).natAbs ((p : Int)).natAbs = 1
          rw [Int.natAbs_natCast, Nat.gcd_comm]
          exact h2
        obtain ⟨z, rfl, z0, z1, hz⟩ := hv.2 hcop
        walk_at "x"
        refine x_app (hs4 _ _ hr') (by rw [List.length_map]; omega) ?_
        walk_at "x"
        refine ⟨_, _, rfl, sput (hs'.trans hs4) ha, by rw [upd_ne hab.symm]; exact hs4 _ _ hB', rs ++ [t * z % (p : Int)], map_app, by rw [List.length_append, hrl]; rfl, fun j r h => ?_⟩
        rcases snoc_at hrl h with ⟨_, h⟩ | ⟨rfl, rfl⟩
        · exact hrz j r h
        · exact Bas.inv hi hp2 ht hy hz
      · rintro σ' H' ⟨v3, v6, rfl, hs, hB, rs, hr, hrl, hrz⟩
        exact ⟨_, rfl, q a rs H' ha hs hr (by rw [List.length_map] at hrl; omega) hrz⟩


/-! ### tables -/

def sp_weighted (K : PySem.W.Frag) : Sp := fun vs H Q _ => ∃ (a b : Addr) (r c : List Int), vs = [.ref a, .ref b] ∧ SqT K H a (r.map V.int) ∧ SqL K H b (c.map V.int) ∧ r.length = c.length ∧ r.length ≤ 1000 ∧ Rg 0 1000000000 r ∧
  ∀ H', Same H H' → Q (.int (S1 (fun j => c.getD j 0 * r.getD j 0) r.length)) H'
theorem ok_weighted (T : Txt K mg) : FnOk P w K mg base CX0 1 T.a_weighted T.fd_weighted ["row", "shares"] (sp_weighted K) := by
  refine T.F_weighted.ok sc_weighted (fun vs H Q E h => ?_) (fun cdv A outer s H vs Q E hr h => ?_)
  · obtain ⟨a, b, r, c, rfl, _⟩ := h
    rfl
  · obtain ⟨a, b, r, c, rfl, hr, hc, hl, hl2, hR, q⟩ := h
    refine ⟨_, (pss_one (ps_ret (pe_callB (id := "sum") (r := rSum K) (cr_sum rfl) (by rfl) T.m_sum (by decide +kernel) (pa_cons (pe_lc (own := [("share", 2), ("value", 3)]) (g := gTup K 2 (gCons (gName 2) (gCons (gName 3) gNil))) (tt := tYes) rfl sc_weighted.nd (pi_zipM (by rfl) T.m_zip (pa_cons (pv 1) (pa_cons (pv 0) pa_nil))) (blkOk_by (N := N_weighted) (sc := defScope s_weighted) (by decide +kernel)) (fun _ _ _ _ _ => (pg_tup rfl (pgs_cons (pg_name (i := 2) sc_weighted.nd rfl (Or.inl rfl)) (pgs_cons (pg_name (i := 3) sc_weighted.nd rfl (Or.inl rfl)) pgs_nil)))) (fun _ _ _ _ _ => pts_nil) (fun _ _ _ _ _ => (pe_op op_mul (pv 2) (pv 3)))) pa_nil)))), ?_⟩
    walk_at "start"
    walk_at "x"
    refine x_lcI (J := ItzM K b a) (n := r.length) (fun R k => by unfold iZipM; walk_at "x"; exact ⟨b, a, _, _, rfl, hc, hr, k⟩) (walk_mix (by rw [List.length_map, hl]) (by rw [List.length_map])) (fun o i H' => Same H H' ∧ ∃ w : List Int, H' o = some (.lst (w.map V.int)) ∧ w.sum = S1 (fun j => c.getD j 0 * r.getD j 0) i ∧ w.length = i) (fun o ho => ⟨same_upd ho, [], upd_same, rfl, rfl⟩) (fun o i H' _ _ z => ⟨z.1.seq hc, seqT z.1 hr⟩) ?_ ?_ ?_
    · rintro o i _ H' H2 hi ho ⟨hs, w, hw, hws, hwl⟩ ⟨p, u, v, rfl, hp, rfl, gu, gv⟩
      obtain ⟨y, gy, rfl⟩ := map_get gu
      obtain ⟨z, gz, rfl⟩ := map_get gv
      have bz := hR.get gz
      refine x_gTup2 (st_of upd_same) ⟨rfl, ?_⟩
      have hpo : o ≠ p := ne_of_none hw hp
      walk_at "x"
      refine ⟨_, by rw [upd_ne hpo]; exact hw, Nat.lt_of_lt_of_le (show _ < 100000 by rw [List.length_map]; omega) (by decide), sput (sput hs (sfree hs hp)) ho, w ++ [y * z], map_app, ?_, by rw [List.length_append, hwl]; rfl⟩
      rw [List.sum_append, hws]
      show _ = S1 _ i + c.getD i 0 * r.getD i 0
      rw [getD_of gy, getD_of gz]
      simp
    · intro x σ' H' R R' hRR hg
      obtain ⟨p, xs, e, h1, h2, v, r', e2, w, r2, e3, e4, h3⟩ := hg
      exact ⟨p, xs, e, h1, h2, v, r', e2, w, r2, e3, e4, hRR _ _ h3⟩
    · rintro o H' ho ⟨hs, w, hw, hws, hwl⟩
      walk_at "x"
      refine ⟨o, w, rfl, sq_of hw, ?_⟩
      rw [hws]
      exact q H' hs


def sp_interpolate (K : PySem.W.Frag) : Sp := fun vs H Q _ => ∃ (a : Addr) (p : Nat) (x y : Int) (t : List (List Int)), vs = [.ref a, .int (p : Int), .int x, .int y] ∧ TabAt K H a t ∧ IsTab p t ∧ t.length ≤ 1000 ∧ IsPrime p ∧ p ≤ 1000000000 ∧ 0 ≤ x ∧ x < p ∧ 0 ≤ y ∧ y < p ∧
  ∀ (v : Int) (H' : Hp), Itp p t x y v → 0 ≤ v → v < p → Same H H' → Q (.int v) H'
theorem Itp.of {p : Nat} {t : List (List Int)} {x y : Int} {rs cs : List Int} (hr : rs.length = t.length) (hc : cs.length = t.length) (h1 : ∀ (i : Nat) r, rs[i]? = some r → Bas p t.length i x r) (h2 : ∀ (i : Nat) r, cs[i]? = some r → Bas p t.length i y r) :
    Itp p t x y (S1 (fun i => rs.getD i 0 * S1 (fun j => cs.getD j 0 * (t.getD i []).getD j 0) t.length) t.length % p) :=
  ⟨fun i => rs.getD i 0, fun j => cs.getD j 0, fun i hi => h1 i _ (get_getD (by omega)), fun j hj => h2 j _ (get_getD (by omega)), rfl⟩
theorem ok_interpolate (T : Txt K mg) : FnOk P w K mg base CX0 3 T.a_interpolate T.fd_interpolate ["table", "prime", "x", "y"] (sp_interpolate K) := by
  refine T.F_interpolate.ok sc_interpolate (fun vs H Q E h => ?_) (fun cdv A outer s H vs Q E hr h => ?_)
  · obtain ⟨a, p, x, y, t, rfl, _⟩ := h
    rfl
  · obtain ⟨a, p, x, y, t, rfl, hT, hI, htl, hp, hp9, hx0, hx1, hy0, hy1, q⟩ := h
    have hp2 := hp.1
    obtain ⟨as, hA, hal, hrow⟩ := id hT
    refine ⟨_, (pss_cons (ps_set (i := 4) sc_interpolate.nd rfl (.inl rfl) (pe_call (ok_shares T) hr (by rfl) T.g_shares T.F_shares.kp T.b_shares .nil pass0 (pa_cons (pe_callB (id := "len") (r := rLen K) cr_len (by rfl) T.m_len PySem.boot_len (pa_cons (pv 0) pa_nil)) (pa_cons (pv 1) (pa_cons (pe_op op_mod (pv 2) (pv 1)) pa_nil)))))
      (pss_cons (ps_set (i := 5) sc_interpolate.nd rfl (.inl rfl) (pe_call (ok_shares T) hr (by rfl) T.g_shares T.F_shares.kp T.b_shares .nil pass0 (pa_cons (pe_callB (id := "len") (r := rLen K) cr_len (by rfl) T.m_len PySem.boot_len (pa_cons (pv 0) pa_nil)) (pa_cons (pv 1) (pa_cons (pe_op op_mod (pv 3) (pv 1)) pa_nil)))))
      (pss_cons (ps_set (i := 6) sc_interpolate.nd rfl (.inl rfl) pe_int)
      (pss_cons (ps_for PassesOwn.never rfl (pi_zipM (by rfl) T.m_zip (pa_cons (pv 4) (pa_cons (pv 0) pa_nil))) (pg_tup rfl (pgs_cons (pg_name (i := 7) sc_interpolate.nd rfl (Or.inl rfl)) (pgs_cons (pg_name (i := 8) sc_interpolate.nd rfl (Or.inl rfl)) pgs_nil)))
      (pss_one (ps_if (pt_cmpR op_ne (pv 7) pe_int (nomark _))
      (pss_one (ps_set (i := 6) sc_interpolate.nd rfl (.inl rfl) (pe_op op_add (pv 6) (pe_op op_mul (pv 7) (pe_call (ok_weighted T) (hr.mono (by decide)) (by rfl) T.g_weighted T.F_weighted.kp T.b_weighted .nil pass0 (pa_cons (pv 8) (pa_cons (pv 5) pa_nil)))))))
      pss_nil)))
      (pss_one (ps_ret (pe_op op_mod (pv 6) (pv 1)))))))), ?_⟩
    walk_at "start"
    walk_at "x"
    refine x_lenT hA ?_
    walk_at "x"
    rw [Int.emod_eq_of_lt hx0 hx1, List.length_map, hal]
    refine ⟨t.length, p, x, rfl, hI.pos, htl, hp, hI.le, hp9, hx0, hx1, fun ra rs H1 hra hs1 hrs hrl hrz => ?_⟩
    walk_at "x"
    refine x_lenT (seqT hs1 hA) ?_
    walk_at "x"
    rw [Int.emod_eq_of_lt hy0 hy1, List.length_map, hal]
    refine ⟨t.length, p, y, rfl, hI.pos, htl, hp, hI.le, hp9, hy0, hy1, fun ca cs H2 hca hs2 hcs hcl hcz => ?_⟩
    walk_at "x"
    have hs02 : Same H H2 := hs1.trans hs2
    refine x_forI (J := ItzM K ra a) (n := t.length) (fun R k => by unfold iZipM; walk_at "x"; exact ⟨ra, a, _, _, rfl, sq_of (hs2 _ _ hrs), seqT hs02 hA, k⟩) (walk_mix (xs := rs.map V.int) (ys := as.map V.ref) (by rw [List.length_map, hrl]) (by rw [List.length_map, hal]))
      (fun i σ' H' => ∃ v7 v8, σ' = [some (.ref a), some (.int (p : Int)), some (.int x), some (.int y), some (.ref ra), some (.ref ca), some (.int (S1 (fun i => rs.getD i 0 * S1 (fun j => cs.getD j 0 * (t.getD i []).getD j 0) t.length) i)), v7, v8] ∧ Same H2 H') ⟨none, none, rfl, Same.refl _⟩
      (fun i σ' H' _ z => by
        obtain ⟨_, _, _, s⟩ := z
        exact ⟨sq_of (s _ _ (hs2 _ _ hrs)), seqT (hs02.trans s) hA⟩) ?_ ?_
    · rintro i _ σ' H' H3 hi ⟨v7, v8, rfl, s⟩ ⟨c, u, v, rfl, hc, rfl, gu, gv⟩
      obtain ⟨r, gr, rfl⟩ := map_get gu
      obtain ⟨b, gb, rfl⟩ := map_getR gv
      obtain ⟨row, grow⟩ : ∃ row, t[i]? = some row := ⟨_, List.getElem?_eq_getElem hi⟩
      obtain ⟨rwl, rwR⟩ := hI.rows i row grow
      have hB := hrz i r gr
      have s3 : Same H (upd H' c (.tup [.int r, .ref b])) := sput (hs02.trans s) (sfree (hs02.trans s) hc)
      have s23 : Same H2 (upd H' c (.tup [.int r, .ref b])) := sput s (sfree s hc)
      refine x_gTup2 (st_of upd_same) ?_
      have step : S1 (fun i => rs.getD i 0 * S1 (fun j => cs.getD j 0 * (t.getD i []).getD j 0) t.length) (i + 1) = S1 (fun i => rs.getD i 0 * S1 (fun j => cs.getD j 0 * (t.getD i []).getD j 0) t.length) i + r * S1 (fun j => cs.getD j 0 * row.getD j 0) row.length := by
        show S1 _ i + rs.getD i 0 * S1 (fun j => cs.getD j 0 * (t.getD i []).getD j 0) t.length = _
        rw [getD_of gr, rwl, List.getD_eq_getElem?_getD (l := t), grow]
        rfl
      walk_at "x"
      refine x_iteN (fun hz => ?_) (fun hz => ?_)
      · walk_at "x"
        refine ⟨b, ca, row, cs, rfl, seqT s3 (hrow i row b grow gb), sq_of (s23 _ _ hcs), by omega, by omega, fun z hz => ⟨(rwR z hz).1, by have := (rwR z hz).2; omega⟩, fun H4 hs4 => ?_⟩
        have hB0 := hB.1
        have hB1 := hB.2.1
        walk_at "x"
        rw [← step]
        exact ⟨_, _, rfl, s23.trans hs4⟩
      · walk_at "x"
        refine ⟨some (.int r), some (.ref b), ?_, s23⟩
        rw [step, hz, Int.zero_mul, Int.add_zero]
    · rintro σ' H' ⟨v7, v8, rfl, s⟩
      walk_at "x"
      exact q _ H' (Itp.of hrl hcl hrz hcz) (Int.emod_nonneg _ (by omega)) (Int.emod_lt_of_pos _ (by omega)) (hs02.trans s)





end
end Br
namespace Br
open PySem PySem.Spec PyProof.Rows L2
local macro_rules | `(tactic| walk_at "x1") => `(tactic| (with_reducible first
  | refine Br.x_seq ?_ | refine Br.x_set ?_ | refine Br.x_asg ?_ | refine Br.x_next ?_ | refine Br.x_ret ?_ | refine Br.x_retN ?_ | refine Br.x_drop ?_ | refine Br.x_if ?_ | refine Br.x_brk ?_ | refine Br.x_cont ?_
  | refine Br.x_c ?_ | refine Br.x_op ?_ | refine Br.x_un ?_ | refine Br.x_I0 ?_ | refine Br.x_U ?_ | refine Br.x_EqI ?_ | refine Br.x_NeI ?_ | refine Br.x_EqB ?_ | refine Br.x_iN ?_ | refine Br.x_int1 ?_ | refine Br.x_min2 ?_ | refine Br.x_max2 ?_ | refine Br.x_nN ?_ | refine Br.x_ifE ?_
  | refine Br.x_test (b := ()) ?_ | refine Br.x_tB ?_ | refine Br.x_bl ?_ | refine Br.x_and ?_ | refine Br.x_or ?_ | refine Br.x_not ?_ | refine Br.x_andV ?_ | refine Br.x_orV ?_ | refine Br.x_notV ?_ | refine Br.x_blP ?_
  | refine Br.x_nil ?_ | refine Br.x_cons ?_ | refine Br.x_call ?_ | refine Br.x_CB ?_ | refine Br.x_BM ?_ | refine Br.x_tup ?_ | refine Br.x_lst ?_ | refine Br.x_chain ?_ | refine Br.x_par ?_ | refine Br.x_gSub ?_ | refine Br.x_gName ?_ | refine Br.x_fld ?_ | refine Br.x_fldS ?_ | refine Br.x_match ?_ | refine Br.x_else ?_ | refine Br.x_noCase ?_))
local macro_rules | `(tactic| walk_at "xv") => `(tactic| ((with_reducible refine' Br.x_var ?hvar ?_); (case hvar => rfl)))
local macro_rules | `(tactic| walk_at "xd") => `(tactic| (dsimp only [List.set_cons_zero, List.set_cons_succ, List.cons_append, List.nil_append, List.append_nil]))
local macro_rules | `(tactic| walk_at "xi") => `(tactic| ((with_reducible refine Br.x_I ?hside ?_); (case hside => first | exact Br.mul_r (by decide) (by decide) | exact Br.mul_l (by decide) (by decide) | exact Br.mul_l (by omega) (by omega) | exact Br.mul_r (by omega) (by omega) | (show (0 : Int) < _; first | decide | omega) | exact ⟨by decide, by decide⟩ | exact ⟨by omega, by omega⟩ | exact ⟨by decide, by decide, by decide⟩)))
local macro_rules | `(tactic| walk_at "x") => `(tactic| (repeat (first | walk_at "x1" | walk_at "xv" | walk_at "xi" | walk_at "xd")))
local macro_rules | `(tactic| walk_at "start") => `(tactic| (simp only [L2.start, List.map_cons, List.map_nil, List.length_cons, List.length_nil, Nat.reduceAdd, Nat.reduceSub, List.replicate, List.cons_append, List.nil_append, List.append_nil]))
local macro_rules | `(tactic| walk_at "isi") => `(tactic| first
  | refine Br.x_isi (b := true) (.base (.int _)) (by decide +kernel) ?_ | refine Br.x_isi (b := false) (.base (.int _)) (by decide +kernel) ?_
  | refine Br.x_isi (b := true) (.base (.bl _)) (by decide +kernel) ?_ | refine Br.x_isi (b := false) (.base (.bl _)) (by decide +kernel) ?_
  | refine Br.x_isi (b := false) (.base .non) (by decide +kernel) ?_
  | refine Br.x_isi (b := true) (.base (.str _)) (by decide +kernel) ?_ | refine Br.x_isi (b := false) (.base (.str _)) (by decide +kernel) ?_
  | refine Br.x_isi (b := true) (.base (.tup (by assumption))) (by decide +kernel) ?_ | refine Br.x_isi (b := false) (.base (.tup (by assumption))) (by decide +kernel) ?_
  | refine Br.x_isi (b := true) (.base (.lst (by assumption))) (by decide +kernel) ?_ | refine Br.x_isi (b := false) (.base (.lst (by assumption))) (by decide +kernel) ?_)
local macro_rules | `(tactic| walk_at "f") => `(tactic| (refine L2.iteF ?_; walk_at "x"))
local macro_rules | `(tactic| walk_at "t") => `(tactic| (refine L2.iteT ?_; walk_at "x"))
local macro_rules | `(tactic| walk_at "is") => `(tactic| (walk_at "isi"; walk_at "x"))
local macro_rules | `(tactic| walk_at "xb") => `(tactic| (simp only [Br.bindS, List.set_cons_zero, List.set_cons_succ]; walk_at "x"))

section
variable {P : Program} {w : World} {K : PySem.W.Frag} {mg : Str → Option Value} {base : Heap}

/-! ### primes -/
def PrimeI (n : Int) : Prop := 2 ≤ n ∧ ∀ d : Int, 2 ≤ d → d * d ≤ n → n % d ≠ 0
theorem sq_lt {a b : Int} (ha : 0 ≤ a) (h : a < b) : a * a < b * b := by
  have h1 : a * a ≤ a * b := Int.mul_le_mul_of_nonneg_left (Int.le_of_lt h) ha
  have h2 : a * b < b * b := Int.mul_lt_mul_of_pos_right h (by omega)
  omega
theorem le_of_sq {a b : Int} (hb : 0 ≤ b) (h : a * a ≤ b * b) : a ≤ b := by
  by_cases h1 : a ≤ b
  · exact h1
  · have := sq_lt hb (show b < a by omega)
    omega
theorem even_dvd {n d : Int} (hd : d % 2 = 0) (h : n % d = 0) : n % 2 = 0 := by
  obtain ⟨q, hq⟩ := Int.dvd_of_emod_eq_zero h
  obtain ⟨r, hr⟩ := Int.dvd_of_emod_eq_zero hd
  rw [hq, hr, Int.mul_assoc]
  exact Int.mul_emod_right 2 _

def sp_is_prime (K : PySem.W.Frag) : Sp := fun vs H Q _ => ∃ n : Int, vs = [.int n] ∧ 0 ≤ n ∧ n < 2000000000 ∧ ∀ b : Bool, (b = true ↔ PrimeI n) → Q (.bl b) H
theorem ok_is_prime (T : Txt K mg) : FnOk P w K mg base CX0 1 T.a_is_prime T.fd_is_prime ["n"] (sp_is_prime K) := by
  refine T.F_is_prime.ok sc_is_prime (fun vs H Q E h => ?_) (fun cdv A outer s H vs Q E hr h => ?_)
  · obtain ⟨n, rfl, _⟩ := h
    rfl
  · obtain ⟨n, rfl, h0, h1, q⟩ := h
    refine ⟨_, (pss_cons (ps_if (pt_cmpR op_lt (pv 0) pe_int (nomark _))
      (pss_one (ps_ret (pe_cmpR op_gt (pv 0) pe_int (nomark _))))
      pss_nil)
      (pss_cons (ps_if (pt_cmpR op_eq (pe_op op_mod (pv 0) pe_int) pe_int (nomark _))
      (pss_one (ps_ret pe_bl))
      pss_nil)
      (pss_cons (ps_for PassesOwn.never rfl (pi_range3 (by rfl) T.m_range (pa_cons pe_int (pa_cons (pe_op op_add (pe_callBfun cr_isqrt (by rfl) T.m_isqrt (pa_cons (pv 0) pa_nil)) pe_int) (pa_cons pe_int pa_nil)))) (pg_name (i := 1) sc_is_prime.nd rfl (Or.inl rfl))
      (pss_one (ps_if (pt_cmpR op_eq (pe_op op_mod (pv 0) (pv 1)) pe_int (nomark _))
      (pss_one (ps_ret pe_bl))
      pss_nil)))
      (pss_one (ps_ret pe_bl))))), ?_⟩
    walk_at "start"
    walk_at "x"
    refine x_ite (fun hc => ?_) (fun hc => ?_)
    · walk_at "x"
      refine q _ ⟨fun e => ⟨by have := of_decide_eq_true e; omega, fun d h2 hd => ?_⟩, fun e => decide_eq_true (by have := e.1; omega)⟩
      have : 2 * 2 ≤ d * d := Int.mul_le_mul h2 h2 (by decide) (by omega)
      omega
    · walk_at "x"
      refine x_ite (fun hc2 => ?_) (fun hc2 => ?_)
      · walk_at "x"
        exact q _ ⟨fun e => (by cases e), fun e => absurd hc2 (e.2 2 (by decide) (by omega))⟩
      · walk_at "x"
        have hn2 : ∀ d : Int, d % 2 = 0 → n % d ≠ 0 := fun d hd e => hc2 (even_dvd hd e)
        obtain ⟨r, er, hr0, hr1, hr2⟩ := isq_spec h0
        have hr3 : r < 44722 := by
          by_cases hh : r < 44722
          · exact hh
          · have : (44722 : Int) * 44722 ≤ r * r := Int.mul_le_mul (by omega) (by omega) (by decide) (by omega)
            omega
        refine x_forR3 3 (r + 1) 2 (fun i σ' H' => ∃ v, σ' = [some (.int n), v] ∧ H' = H ∧ ∀ d : Int, 2 ≤ d → d < 3 + (i : Int) * 2 → n % d ≠ 0) (fun R k => k) (fun R k => by walk_at "x"; exact x_isqrt0 h0 (by omega) er (by walk_at "x"; exact k)) (fun R k => k) (by decide) (by decide) (by decide) (by decide) (by omega) (by omega) ?_ ?_ ?_
        · exact ⟨none, rfl, rfl, fun d h2 h3 => by
            have e : d = 2 := by omega
            rw [e]; exact hc2⟩
        · rintro i σ' H' hi ⟨v, rfl, rfl, hI⟩
          walk_at "x"
          refine x_ite (fun hd => ?_) (fun hd => ?_)
          · walk_at "x"
            refine q _ ⟨fun e => (by cases e), fun e => absurd hd (e.2 _ (by omega) ?_)⟩
            have : (3 + (i : Int) * 2) * (3 + (i : Int) * 2) ≤ r * r := Int.mul_le_mul (by omega) (by omega) (by omega) (by omega)
            omega
          · walk_at "x"
            refine ⟨_, rfl, rfl, fun d h2 h3 => ?_⟩
            by_cases h4 : d < 3 + (i : Int) * 2
            · exact hI d h2 h4
            · by_cases h5 : d = 3 + (i : Int) * 2
              · rw [h5]; exact hd
              · exact hn2 d (by omega)
        · rintro i σ' H' hi ⟨v, rfl, rfl, hI⟩
          walk_at "x"
          refine q _ ⟨fun _ => ⟨by omega, fun d h2 h3 => hI d h2 ?_⟩, fun _ => rfl⟩
          have : d < r + 1 := by
            by_cases hh : d < r + 1
            · exact hh
            · have : (r + 1) * (r + 1) ≤ d * d := Int.mul_le_mul (by omega) (by omega) (by omega) (by omega)
              omega
          omega



open Br.F
/-- a value of any kind that the laws put in -/
inductive Odd (H : Hp) : V → Prop
  | int (i : Int) : Odd H (.int i)
  | bl (b : Bool) : Odd H (.bl b)
  | non : Odd H .non
  | str (x : Str) : Odd H (.str x)
  | tup (a : Addr) (xs : List V) (h : H a = some (.tup xs)) : Odd H (.ref a)
  | lst (a : Addr) (xs : List V) (h : H a = some (.lst xs)) : Odd H (.ref a)
theorem Odd.same {H H' : Hp} {v : V} (h : Odd H v) (s : Same H H') : Odd H' v := by
  cases h with
  | int i => exact .int i
  | bl b => exact .bl b
  | non => exact .non
  | str x => exact .str x
  | tup a xs h => exact .tup a xs (s _ _ h)
  | lst a xs h => exact .lst a xs (s _ _ h)
def isB (v : V) (b : Int) : Bool := match v with
  | .int i => decide (0 ≤ i) && decide (i < b)
  | _ => false
theorem isB_int {i b : Int} (h0 : 0 ≤ i) (h1 : i < b) : isB (.int i) b = true := by
  show (decide (0 ≤ i) && decide (i < b)) = true
  rw [decide_eq_true h0, decide_eq_true h1]; rfl

def sp_is_below (K : PySem.W.Frag) : Sp := fun vs H Q _ => ∃ (v : V) (b : Int), vs = [v, .int b] ∧ Odd H v ∧ Q (.bl (isB v b)) H
theorem ok_is_below (T : Txt K mg) : FnOk P w K mg base CX0 1 T.a_is_below T.fd_is_below ["value", "bound"] (sp_is_below K) := by
  refine T.F_is_below.ok sc_is_below (fun vs H Q E h => ?_) (fun cdv A outer s H vs Q E hr h => ?_)
  · obtain ⟨v, b, rfl, _⟩ := h
    rfl
  · obtain ⟨v, b, rfl, hv, q⟩ := h
    refine ⟨_, (pss_one (ps_ret (pe_and (pe_callB (id := "isinstance") (r := rIsi K) call_isi (by rfl) T.m_isinstance (by decide +kernel) (pa_cons (pv 0) (pa_cons (pe_bltn (v := .ty "int") (by rfl) T.m_int (by decide +kernel) rfl) pa_nil))) (pe_and (pe_not (pe_callB (id := "isinstance") (r := rIsi K) call_isi (by rfl) T.m_isinstance (by decide +kernel) (pa_cons (pv 0) (pa_cons (pe_bltn (v := .ty "bool") (by rfl) T.m_bool (by decide +kernel) rfl) pa_nil)))) (pe_one (pe_chain op_le op_lt pe_int (pv 0) (pv 1))))))), ?_⟩
    walk_at "start"
    cases hv with
    | int i =>
      walk_at "x"
      walk_at "is"
      walk_at "t"
      walk_at "is"
      walk_at "t"
      refine x_ite (fun h0 => ?_) (fun h0 => ?_)
      · walk_at "x"
        have e : isB (.int i) b = decide (i < b) := by show (decide (0 ≤ i) && decide (i < b)) = _; rw [decide_eq_true h0]; rfl
        rw [← e]; exact q
      · have e : isB (.int i) b = false := by show (decide (0 ≤ i) && decide (i < b)) = _; rw [decide_eq_false h0]; rfl
        rw [← e]; exact q
    | bl x =>
      walk_at "x"
      walk_at "is"
      walk_at "t"
      walk_at "is"
      walk_at "f"
      exact q
    | non =>
      walk_at "x"
      walk_at "is"
      walk_at "f"
      exact q
    | str x =>
      walk_at "x"
      walk_at "is"
      walk_at "f"
      exact q
    | tup a xs h =>
      walk_at "x"
      walk_at "is"
      walk_at "f"
      exact q
    | lst a xs h =>
      walk_at "x"
      walk_at "is"
      walk_at "f"
      exact q



def sp_is_modulus (K : PySem.W.Frag) : Sp := fun vs H Q _ => ∃ (v : V), vs = [v] ∧ Odd H v ∧ Q (.bl (isB v 1000000001 && !isB v 2)) H
theorem ok_is_modulus (T : Txt K mg) : FnOk P w K mg base CX0 2 T.a_is_modulus T.fd_is_modulus ["value"] (sp_is_modulus K) := by
  refine T.F_is_modulus.ok sc_is_modulus (fun vs H Q E h => ?_) (fun cdv A outer s H vs Q E hr h => ?_)
  · obtain ⟨v, rfl, _⟩ := h
    rfl
  · obtain ⟨v, rfl, hv, q⟩ := h
    refine ⟨_, (pss_one (ps_ret (pe_and (pe_call (ok_is_below T) hr (by rfl) T.g_is_below T.F_is_below.kp T.b_is_below .nil pass0 (pa_cons (pv 0) (pa_cons (pe_op op_add (pe_glob (v := .int 1000000000) (by rfl) T.c_GREATEST_MODULUS ⟨_, rfl⟩) pe_int) pa_nil))) (pe_one (pe_cmpR op_ge (pv 0) pe_int (nomark _)))))), ?_⟩
    walk_at "start"
    walk_at "x"
    refine ⟨v, _, rfl, hv, ?_⟩
    walk_at "x"
    refine x_iteB (fun hb => ?_) (fun hb => ?_)
    · cases hv with
      | int i =>
        have h0 : 0 ≤ i := by
          by_cases h0 : 0 ≤ i
          · exact h0
          · exfalso
            have e : (decide (0 ≤ i) && decide (i < 1000000000 + 1)) = true := hb
            rw [decide_eq_false h0] at e
            cases e
        walk_at "x"
        have e : (isB (.int i) 1000000001 && !isB (.int i) 2) = decide (2 ≤ i) := by
          rw [show isB (.int i) 1000000001 = true from hb]
          show (true && !(decide (0 ≤ i) && decide (i < 2))) = _
          rw [decide_eq_true h0]
          by_cases h2 : 2 ≤ i
          · rw [decide_eq_true h2, decide_eq_false (show ¬ i < 2 by omega)]; rfl
          · rw [decide_eq_false h2, decide_eq_true (show i < 2 by omega)]; rfl
        rw [← e]
        exact q
      | _ => cases hb
    · rw [show isB v 1000000001 = false from hb] at q
      exact q


def sp_are_numbers (K : PySem.W.Frag) : Sp := fun vs H Q _ => ∃ (v : V) (n m : Int), vs = [v, .int n, .int m] ∧
  ((∃ (a : Addr) (xs : List V), v = .ref a ∧ H a = some (.lst xs) ∧ xs.length ≤ 100000 ∧ (∀ x, x ∈ xs → Odd H x) ∧ ∀ H', Same H H' → Q (.bl (decide ((xs.length : Int) = n) && xs.all fun x => isB x m)) H') ∨
   (Odd H v ∧ (∀ (a : Addr) (xs : List V), v = .ref a → H a ≠ some (.lst xs)) ∧ Q (.bl false) H))
theorem getDV {xs : List V} {i : Nat} {x : V} (h : xs[i]? = some x) : xs.getD i .non = x := by rw [List.getD_eq_getElem?_getD, h]; rfl
theorem range_all {xs : List V} {f : V → Bool} : ((List.range xs.length).map fun i => f (xs.getD i .non)).all id = xs.all f := by
  have e : (List.range xs.length).map (fun i => f (xs.getD i .non)) = xs.map f := by
    apply List.ext_getElem?
    intro i
    rw [List.getElem?_map, List.getElem?_map]
    by_cases h : i < xs.length
    · rw [List.getElem?_range h, List.getElem?_eq_getElem h]
      show some (f (xs.getD i .non)) = some (f xs[i])
      rw [getDV (List.getElem?_eq_getElem h)]
    · rw [List.getElem?_eq_none (by simpa using h), List.getElem?_eq_none (by simpa using h)]
      rfl
  rw [e, List.all_map]
  rfl
theorem ok_are_numbers (T : Txt K mg) : FnOk P w K mg base CX0 2 T.a_are_numbers T.fd_are_numbers ["values", "many", "modulus"] (sp_are_numbers K) := by
  refine T.F_are_numbers.ok sc_are_numbers (fun vs H Q E h => ?_) (fun cdv A outer s H vs Q E hr h => ?_)
  · obtain ⟨v, n, m, rfl, _⟩ := h
    rfl
  · obtain ⟨v, n, m, rfl, h⟩ := h
    refine ⟨_, (pss_cons (ps_if (PW.pt (pw_or (pt_not (pt_val (pe_callB (id := "isinstance") (r := rIsi K) call_isi (by rfl) T.m_isinstance (by decide +kernel) (pa_cons (pv 0) (pa_cons (pe_bltn (v := .ty "list") (by rfl) T.m_list (by decide +kernel) rfl) pa_nil))))) (pw_or1 (pt_cmpR op_ne (pe_callB (id := "len") (r := rLen K) cr_len (by rfl) T.m_len PySem.boot_len (pa_cons (pv 0) pa_nil)) (pv 1) (nomark _)))))
      (pss_one (ps_ret pe_bl))
      pss_nil)
      (pss_one (ps_ret (pe_callB (id := "all") (r := rAll K) (cr_all rfl) (by rfl) T.m_all (by decide +kernel) (pa_cons (pe_lc (own := [("value", 3)]) (g := gName 3) (tt := tYes) rfl sc_are_numbers.nd (pi_list (pv 0)) (blkOk_by (N := N_are_numbers) (sc := defScope s_are_numbers) (by decide +kernel)) (fun _ _ _ _ _ => (pg_name (i := 3) sc_are_numbers.nd rfl (Or.inl rfl))) (fun _ _ _ _ _ => pts_nil) (fun _ _ _ _ _ => (pe_call (ok_is_below T) hr (by rfl) T.g_is_below T.F_is_below.kp T.b_is_below .nil pass0 (pa_cons (pv 3) (pa_cons (pv 2) pa_nil))))) pa_nil))))), ?_⟩
    walk_at "start"
    rcases h with ⟨a, xs, rfl, ha, hl, ho, q⟩ | ⟨hv, hno, q⟩
    · walk_at "x"
      walk_at "is"
      walk_at "f"
      refine x_len (sq_of ha) ?_
      walk_at "x"
      refine x_iteN (fun hc => ?_) (fun hc => ?_)
      · walk_at "x"
        have e : (decide ((xs.length : Int) = n) && xs.all fun x => isB x m) = false := by rw [decide_eq_false hc]; rfl
        rw [← e]
        exact q H (Same.refl _)
      · walk_at "x"
        refine x_lcB (xs := xs) (fun i => isB (xs.getD i .non) m) (J := Itl K a) (G := fun H => SqL K H a xs) (fun R r => ⟨_, rfl, a, rfl, ⟨xs, sq_of ha⟩, r⟩) walk_list hl (fun H' s => sq_of (s _ _ ha)) (fun x => rfl) ?_ ?_
        · intro i x H' hs hx R hR
          walk_at "x"
          refine ⟨x, m, rfl, (ho x (List.mem_of_getElem? hx)).same hs, ?_⟩
          rw [← getDV hx]
          exact hR H' (Same.refl _)
        · intro p H' hp hs hP
          walk_at "x"
          refine x_all hP ?_
          rw [range_all (f := fun x => isB x m)]
          have e : (decide ((xs.length : Int) = n) && xs.all fun x => isB x m) = xs.all fun x => isB x m := by rw [decide_eq_true hc]; rfl
          rw [← e]
          exact q H' hs
    · cases hv with
      | int i =>
        walk_at "x"
        walk_at "is"
        walk_at "t"
        exact q
      | bl x =>
        walk_at "x"
        walk_at "is"
        walk_at "t"
        exact q
      | non =>
        walk_at "x"
        walk_at "is"
        walk_at "t"
        exact q
      | str x =>
        walk_at "x"
        walk_at "is"
        walk_at "t"
        exact q
      | tup a xs h =>
        walk_at "x"
        walk_at "is"
        walk_at "t"
        exact q
      | lst a xs h => exact absurd h (hno a xs rfl)



def sp_is_factor (K : PySem.W.Frag) : Sp := fun vs H Q _ => ∃ (a : Addr) (f : Fac) (t c i : Nat), vs = [.ref a, .int (t : Int), .int (c : Int), .int (i : Int)] ∧ FacAt H a f ∧ FacOk c i t f ∧ Q (.bl true) H
theorem ok_is_factor (T : Txt K mg) : FnOk P w K mg base CX0 2 T.a_is_factor T.fd_is_factor ["factor", "target", "cells", "inputs"] (sp_is_factor K) := by
  refine T.F_is_factor.ok sc_is_factor (fun vs H Q E h => ?_) (fun cdv A outer s H vs Q E hr h => ?_)
  · obtain ⟨a, f, t, c, i, rfl, _⟩ := h
    rfl
  · obtain ⟨a, f, t, c, i, rfl, hf, ok, q⟩ := h
    refine ⟨_, (pss_cons (ps_if (pt_not (pt_val (pe_callB (id := "isinstance") (r := rIsi K) call_isi (by rfl) T.m_isinstance (by decide +kernel) (pa_cons (pv 0) (pa_cons (pe_bltn (v := .ty "tuple") (by rfl) T.m_tuple (by decide +kernel) rfl) pa_nil)))))
      (pss_one (ps_ret pe_bl))
      pss_nil)
      (pss_one (ps_match (pv 0) (pcs_seq rfl op_eq (pcap_name 4 sc_is_factor.nd rfl (.inl rfl) pcap_nil)
      (pss_one (ps_ret (pe_and (pe_call (ok_is_below T) hr (by rfl) T.g_is_below T.F_is_below.kp T.b_is_below .nil pass0 (pa_cons (pv 4) (pa_cons (pv 2) pa_nil))) (pe_one (pe_cmpR op_ne (pv 4) (pv 1) (nomark _))))))
      (pcs_seq rfl op_eq (pcap_name 4 sc_is_factor.nd rfl (.inl rfl) pcap_nil)
      (pss_one (ps_ret (pe_call (ok_is_below T) hr (by rfl) T.g_is_below T.F_is_below.kp T.b_is_below .nil pass0 (pa_cons (pv 4) (pa_cons (pv 3) pa_nil)))))
      (pcs_else (rest := _) (pss_one (ps_ret pe_bl)))))))), ?_⟩
    walk_at "start"
    cases f with
    | cell k =>
      have hf : H a = some (.tup [.str "cell", .int (k : Int)]) := hf
      walk_at "x"
      walk_at "is"
      walk_at "f"
      refine x_caseY (st_of hf) rfl ?_
      walk_at "xb"
      refine ⟨_, _, rfl, .int _, ?_⟩
      walk_at "x"
      rw [isB_int (by omega) (by have := ok.1; omega)]
      walk_at "t"
      rw [decide_eq_false (show ¬ (k : Int) = (t : Int) by have := ok.2; omega)]
      exact q
    | inp k =>
      have hf : H a = some (.tup [.str "input", .int (k : Int)]) := hf
      walk_at "x"
      walk_at "is"
      walk_at "f"
      refine x_caseW (st_of hf) rfl (by decide) ?_
      refine x_caseY (st_of hf) rfl ?_
      walk_at "xb"
      refine ⟨_, _, rfl, .int _, ?_⟩
      rw [isB_int (by omega) (by have h : k < i := ok; omega)]
      exact q


def sp_are_factors (K : PySem.W.Frag) : Sp := fun vs H Q _ => ∃ (a : Addr) (as : List Addr) (fs : List Fac) (t c i : Nat), vs = [.ref a, .int (t : Int), .int (c : Int), .int (i : Int)] ∧ H a = some (.tup (as.map V.ref)) ∧ as.length = fs.length ∧ (∀ (k : Nat) x b, fs[k]? = some x → as[k]? = some b → FacAt H b x) ∧
  fs.length ≤ 3 ∧ (∀ f, f ∈ fs → FacOk c i t f) ∧ ∀ H', Same H H' → Q (.bl true) H'
theorem ok_are_factors (T : Txt K mg) : FnOk P w K mg base CX0 3 T.a_are_factors T.fd_are_factors ["factors", "target", "cells", "inputs"] (sp_are_factors K) := by
  refine T.F_are_factors.ok sc_are_factors (fun vs H Q E h => ?_) (fun cdv A outer s H vs Q E hr h => ?_)
  · obtain ⟨a, as, fs, t, c, i, rfl, _⟩ := h
    rfl
  · obtain ⟨a, as, fs, t, c, i, rfl, ha, hl, hf, h3, ok, q⟩ := h
    refine ⟨_, (pss_cons (ps_if (PW.pt (pw_or (pt_not (pt_val (pe_callB (id := "isinstance") (r := rIsi K) call_isi (by rfl) T.m_isinstance (by decide +kernel) (pa_cons (pv 0) (pa_cons (pe_bltn (v := .ty "tuple") (by rfl) T.m_tuple (by decide +kernel) rfl) pa_nil))))) (pw_or1 (pt_cmpR op_gt (pe_callB (id := "len") (r := rLen K) cr_len (by rfl) T.m_len PySem.boot_len (pa_cons (pv 0) pa_nil)) (pe_glob (v := .int 3) (by rfl) T.c_MOST_FACTORS ⟨_, rfl⟩) (nomark _)))))
      (pss_one (ps_ret pe_bl))
      pss_nil)
      (pss_one (ps_ret (pe_callB (id := "all") (r := rAll K) (cr_all rfl) (by rfl) T.m_all (by decide +kernel) (pa_cons (pe_lc (own := [("factor", 4)]) (g := gName 4) (tt := tYes) rfl sc_are_factors.nd (pi_tup (pv 0)) (blkOk_by (N := N_are_factors) (sc := defScope s_are_factors) (by decide +kernel)) (fun _ _ _ _ _ => (pg_name (i := 4) sc_are_factors.nd rfl (Or.inl rfl))) (fun _ _ _ _ _ => pts_nil) (fun _ _ _ _ _ => (pe_call (ok_is_factor T) hr (by rfl) T.g_is_factor T.F_is_factor.kp T.b_is_factor .nil pass0 (pa_cons (pv 4) (pa_cons (pv 1) (pa_cons (pv 2) (pa_cons (pv 3) pa_nil))))))) pa_nil))))), ?_⟩
    walk_at "start"
    walk_at "x"
    walk_at "is"
    walk_at "f"
    refine x_lenT (st_of ha) ?_
    walk_at "x"
    rw [List.length_map, hl, decide_eq_false (show ¬ (3 : Int) < (fs.length : Int) by omega)]
    walk_at "f"
    refine x_lcB (xs := as.map V.ref) (fun _ => true) (J := Itt K a) (G := fun H => SqT K H a (as.map V.ref)) (fun R r => ⟨_, rfl, a, rfl, ⟨_, st_of ha⟩, r⟩) walk_tup (by rw [List.length_map]; omega) (fun H' s => st_of (s _ _ ha)) (fun x => rfl) ?_ ?_
    · intro k x H' hs hx R hR
      obtain ⟨b, hb, rfl⟩ := map_getR hx
      have hk : k < fs.length := by
        have := (List.getElem?_eq_some_iff.mp hb).1
        omega
      walk_at "x"
      exact ⟨b, _, t, c, i, rfl, (hf k _ b (List.getElem?_eq_getElem hk) hb).tups (Tups.same hs), ok _ (List.getElem_mem hk), hR H' (Same.refl _)⟩
    · intro p H' hp hs hP
      walk_at "x"
      refine x_all hP ?_
      rw [all_range fun _ _ => rfl]
      exact q H' hs


def sp_are_three_cells (K : PySem.W.Frag) : Sp := fun vs H Q _ => ∃ (t a b c : Nat), vs = [.int (t : Int), .int (a : Int), .int (b : Int), .int (c : Int)] ∧ t < c ∧ a < c ∧ b < c ∧ t ≠ a ∧ t ≠ b ∧ a ≠ b ∧ ∀ H', Same H H' → Q (.bl true) H'
theorem ok_are_three_cells (T : Txt K mg) : FnOk P w K mg base CX0 2 T.a_are_three_cells T.fd_are_three_cells ["target", "a", "b", "cells"] (sp_are_three_cells K) := by
  refine T.F_are_three_cells.ok sc_are_three_cells (fun vs H Q E h => ?_) (fun cdv A outer s H vs Q E hr h => ?_)
  · obtain ⟨t, a, b, c, rfl, _⟩ := h
    rfl
  · obtain ⟨t, a, b, c, rfl, ht, ha, hb, hta, htb, hab, q⟩ := h
    refine ⟨_, (pss_cons (ps_if (pt_not (pt_val (pe_callB (id := "all") (r := rAll K) (cr_all rfl) (by rfl) T.m_all (by decide +kernel) (pa_cons (pe_lc (own := [("cell", 4)]) (g := gName 4) (tt := tYes) rfl sc_are_three_cells.nd (pi_tup (pe_tup (pa_cons (pv 0) (pa_cons (pv 1) (pa_cons (pv 2) pa_nil))))) (blkOk_by (N := N_are_three_cells) (sc := defScope s_are_three_cells) (by decide +kernel)) (fun _ _ _ _ _ => (pg_name (i := 4) sc_are_three_cells.nd rfl (Or.inl rfl))) (fun _ _ _ _ _ => pts_nil) (fun _ _ _ _ _ => (pe_call (ok_is_below T) hr (by rfl) T.g_is_below T.F_is_below.kp T.b_is_below .nil pass0 (pa_cons (pv 4) (pa_cons (pv 3) pa_nil))))) pa_nil))))
      (pss_one (ps_ret pe_bl))
      pss_nil)
      (pss_one (ps_ret (pe_and (pe_cmpR op_ne (pv 0) (pv 1) (nomark _)) (pe_and (pe_cmpR op_ne (pv 0) (pv 2) (nomark _)) (pe_one (pe_cmpR op_ne (pv 1) (pv 2) (nomark _)))))))), ?_⟩
    walk_at "start"
    walk_at "x"
    refine x_lcB0 (xs := [.int (t : Int), .int (a : Int), .int (b : Int)]) (fun _ => true) (Nat.le_of_ble_eq_true rfl) (fun R hR => ?_) (fun x => rfl) ?_ ?_
    · unfold iTup
      walk_at "x"
      refine ⟨by show 3 ≤ sizeLine; decide, fun o ho => ?_⟩
      exact ⟨o, rfl, ⟨_, st_of upd_same⟩, hR (Itt K o) _ _ (same_upd ho) walk_tup fun H' s => st_of (s _ _ upd_same)⟩
    · intro k x H' hs hx R hR
      have hx' : x = .int (t : Int) ∨ x = .int (a : Int) ∨ x = .int (b : Int) := by
        have := List.mem_of_getElem? hx
        simpa using this
      walk_at "x"
      rcases hx' with rfl | rfl | rfl
      · refine ⟨_, _, rfl, .int _, ?_⟩
        rw [isB_int (by omega) (by omega)]
        exact hR H' (Same.refl _)
      · refine ⟨_, _, rfl, .int _, ?_⟩
        rw [isB_int (by omega) (by omega)]
        exact hR H' (Same.refl _)
      · refine ⟨_, _, rfl, .int _, ?_⟩
        rw [isB_int (by omega) (by omega)]
        exact hR H' (Same.refl _)
    · intro p H' hs hP
      walk_at "x"
      refine x_all hP ?_
      rw [all_range fun _ _ => rfl]
      walk_at "x"
      walk_at "f"
      rw [decide_eq_false (show ¬ (t : Int) = (a : Int) by omega)]
      walk_at "t"
      rw [decide_eq_false (show ¬ (t : Int) = (b : Int) by omega)]
      walk_at "t"
      rw [decide_eq_false (show ¬ (a : Int) = (b : Int) by omega)]
      exact q H' hs


def sp_is_sign (K : PySem.W.Frag) : Sp := fun vs H Q _ => ∃ (s : Int) (m : Nat), vs = [.int s, .int (m : Int)] ∧ 2 ≤ m ∧ (s = 1 ∨ s = (m : Int) - 1) ∧ ∀ H', Same H H' → Q (.bl true) H'
theorem ok_is_sign (T : Txt K mg) : FnOk P w K mg base CX0 2 T.a_is_sign T.fd_is_sign ["sign", "modulus"] (sp_is_sign K) := by
  refine T.F_is_sign.ok sc_is_sign (fun vs H Q E h => ?_) (fun cdv A outer s H vs Q E hr h => ?_)
  · obtain ⟨s, m, rfl, _⟩ := h
    rfl
  · obtain ⟨s, m, rfl, hm, hs, q⟩ := h
    refine ⟨_, (pss_one (ps_ret (pe_and (pe_call (ok_is_below T) hr (by rfl) T.g_is_below T.F_is_below.kp T.b_is_below .nil pass0 (pa_cons (pv 0) (pa_cons (pv 1) pa_nil))) (pe_one (pe_cmpR (r := rIn K false) op_in_seq (pv 0) (pe_tup (pa_cons pe_int (pa_cons (pe_op op_sub (pv 1) pe_int) pa_nil))) (by with_unfolding_all rfl)))))), ?_⟩
    walk_at "start"
    walk_at "x"
    refine ⟨_, _, rfl, .int _, ?_⟩
    rw [isB_int (by omega) (by omega)]
    walk_at "x"
    walk_at "t"
    refine ⟨by show 2 ≤ sizeLine; decide, fun o ho => ?_⟩
    refine ⟨o, [.int 1, .int ((m : Int) - 1)], rfl, .inr (st_of upd_same), rfl, rfl, ?_⟩
    have e : inV (.int s) [.int 1, .int ((m : Int) - 1)] = true := by
      show ((1 : Int) == s || ((m : Int) - 1 == s || false)) = true
      rcases hs with rfl | rfl
      · simp
      · simp
    rw [e]
    exact q _ (same_upd ho)


def sp_is_row (K : PySem.W.Frag) : Sp := fun vs H Q _ => ∃ (a : Addr) (r : List Int) (n m : Nat), vs = [.ref a, .int (n : Int), .int (m : Int)] ∧ H a = some (.tup (r.map V.int)) ∧ r.length = n ∧ n ≤ 1000 ∧ Rg 0 m r ∧ ∀ H', Same H H' → Q (.bl true) H'
theorem ok_is_row (T : Txt K mg) : FnOk P w K mg base CX0 2 T.a_is_row T.fd_is_row ["row", "size", "modulus"] (sp_is_row K) := by
  refine T.F_is_row.ok sc_is_row (fun vs H Q E h => ?_) (fun cdv A outer s H vs Q E hr h => ?_)
  · obtain ⟨a, r, n, m, rfl, _⟩ := h
    rfl
  · obtain ⟨a, r, n, m, rfl, ha, hl, hn, hR, q⟩ := h
    refine ⟨_, (pss_cons (ps_if (PW.pt (pw_or (pt_not (pt_val (pe_callB (id := "isinstance") (r := rIsi K) call_isi (by rfl) T.m_isinstance (by decide +kernel) (pa_cons (pv 0) (pa_cons (pe_bltn (v := .ty "tuple") (by rfl) T.m_tuple (by decide +kernel) rfl) pa_nil))))) (pw_or1 (pt_cmpR op_ne (pe_callB (id := "len") (r := rLen K) cr_len (by rfl) T.m_len PySem.boot_len (pa_cons (pv 0) pa_nil)) (pv 1) (nomark _)))))
      (pss_one (ps_ret pe_bl))
      pss_nil)
      (pss_one (ps_ret (pe_callB (id := "all") (r := rAll K) (cr_all rfl) (by rfl) T.m_all (by decide +kernel) (pa_cons (pe_lc (own := [("value", 3)]) (g := gName 3) (tt := tYes) rfl sc_is_row.nd (pi_tup (pv 0)) (blkOk_by (N := N_is_row) (sc := defScope s_is_row) (by decide +kernel)) (fun _ _ _ _ _ => (pg_name (i := 3) sc_is_row.nd rfl (Or.inl rfl))) (fun _ _ _ _ _ => pts_nil) (fun _ _ _ _ _ => (pe_call (ok_is_below T) hr (by rfl) T.g_is_below T.F_is_below.kp T.b_is_below .nil pass0 (pa_cons (pv 3) (pa_cons (pv 2) pa_nil))))) pa_nil))))), ?_⟩
    walk_at "start"
    walk_at "x"
    walk_at "is"
    walk_at "f"
    refine x_lenT (st_of ha) ?_
    walk_at "x"
    rw [List.length_map, hl, decide_eq_true rfl]
    walk_at "f"
    refine x_lcB (xs := r.map V.int) (fun _ => true) (J := Itt K a) (G := fun H => SqT K H a (r.map V.int)) (fun R r => ⟨_, rfl, a, rfl, ⟨_, st_of ha⟩, r⟩) walk_tup (by rw [List.length_map]; omega) (fun H' s => st_of (s _ _ ha)) (fun x => rfl) ?_ ?_
    · intro k x H' hs hx R hR'
      obtain ⟨z, hz, rfl⟩ := map_get hx
      walk_at "x"
      refine ⟨_, _, rfl, .int _, ?_⟩
      rw [isB_int (hR.get hz).1 (hR.get hz).2]
      exact hR' H' (Same.refl _)
    · intro p H' hp hs hP
      walk_at "x"
      refine x_all hP ?_
      rw [all_range fun _ _ => rfl]
      exact q H' hs


def sp_is_table (K : PySem.W.Frag) : Sp := fun vs H Q _ => ∃ (a : Addr) (tb : List (List Int)) (m : Nat), vs = [.ref a, .int (m : Int)] ∧ TbAt H a tb ∧ IsTab m tb ∧ tb.length ≤ 1000 ∧ ∀ H', Same H H' → Q (.bl true) H'
theorem ok_is_table (T : Txt K mg) : FnOk P w K mg base CX0 3 T.a_is_table T.fd_is_table ["table", "modulus"] (sp_is_table K) := by
  refine T.F_is_table.ok sc_is_table (fun vs H Q E h => ?_) (fun cdv A outer s H vs Q E hr h => ?_)
  · obtain ⟨a, tb, m, rfl, _⟩ := h
    rfl
  · obtain ⟨a, tb, m, rfl, ⟨as, ha, hl, hrow⟩, hI, hn, q⟩ := h
    have h1 := hI.pos
    have h2 := hI.le
    refine ⟨_, (pss_cons (ps_if (PW.pt (pw_or (pt_not (pt_val (pe_callB (id := "isinstance") (r := rIsi K) call_isi (by rfl) T.m_isinstance (by decide +kernel) (pa_cons (pv 0) (pa_cons (pe_bltn (v := .ty "tuple") (by rfl) T.m_tuple (by decide +kernel) rfl) pa_nil))))) (pw_or1 (pt_not (pt_chain op_le op_le pe_int (pe_callB (id := "len") (r := rLen K) cr_len (by rfl) T.m_len PySem.boot_len (pa_cons (pv 0) pa_nil)) (pv 1))))))
      (pss_one (ps_ret pe_bl))
      pss_nil)
      (pss_one (ps_ret (pe_callB (id := "all") (r := rAll K) (cr_all rfl) (by rfl) T.m_all (by decide +kernel) (pa_cons (pe_lc (own := [("row", 2)]) (g := gName 2) (tt := tYes) rfl sc_is_table.nd (pi_tup (pv 0)) (blkOk_by (N := N_is_table) (sc := defScope s_is_table) (by decide +kernel)) (fun _ _ _ _ _ => (pg_name (i := 2) sc_is_table.nd rfl (Or.inl rfl))) (fun _ _ _ _ _ => pts_nil) (fun _ _ _ _ _ => (pe_call (ok_is_row T) hr (by rfl) T.g_is_row T.F_is_row.kp T.b_is_row .nil pass0 (pa_cons (pv 2) (pa_cons (pe_callB (id := "len") (r := rLen K) cr_len (by rfl) T.m_len PySem.boot_len (pa_cons (pv 0) pa_nil)) (pa_cons (pv 1) pa_nil)))))) pa_nil))))), ?_⟩
    walk_at "start"
    walk_at "x"
    walk_at "is"
    walk_at "f"
    refine x_lenT (st_of ha) ?_
    walk_at "x"
    rw [List.length_map, hl, decide_eq_true (show (1 : Int) ≤ (tb.length : Int) by omega)]
    walk_at "t"
    rw [decide_eq_true (show (tb.length : Int) ≤ (m : Int) by omega)]
    walk_at "f"
    refine x_lcB (xs := as.map V.ref) (fun _ => true) (J := Itt K a) (G := fun H => SqT K H a (as.map V.ref)) (fun R r => ⟨_, rfl, a, rfl, ⟨_, st_of ha⟩, r⟩) walk_tup (by rw [List.length_map]; omega) (fun H' s => st_of (s _ _ ha)) (fun x => rfl) ?_ ?_
    · intro k x H' hs hx R hR
      obtain ⟨b, hb, rfl⟩ := map_getR hx
      have hk : k < tb.length := by
        have := (List.getElem?_eq_some_iff.mp hb).1
        omega
      obtain ⟨rl, rR⟩ := hI.rows k _ (List.getElem?_eq_getElem hk)
      walk_at "x"
      refine x_lenT (st_of (hs _ _ ha)) ?_
      walk_at "x"
      rw [List.length_map, hl]
      exact ⟨b, _, tb.length, m, rfl, hs _ _ (hrow k _ b (List.getElem?_eq_getElem hk) hb), rl, hn, rR, fun H2 s2 => hR H2 s2⟩
    · intro p H' hp hs hP
      walk_at "x"
      refine x_all hP ?_
      rw [all_range fun _ _ => rfl]
      exact q H' hs


def sp_is_step (K : PySem.W.Frag) : Sp := fun vs H Q _ => ∃ (a : Addr) (s : Stp) (m c i : Nat), vs = [.ref a, .int (m : Int), .int (c : Int), .int (i : Int)] ∧ StpAt H a s ∧ StpOk m c i s ∧ 2 ≤ m ∧ ∀ H', Same H H' → Q (.bl true) H'
theorem ok_is_step (T : Txt K mg) : FnOk P w K mg base CX0 4 T.a_is_step T.fd_is_step ["step", "modulus", "cells", "inputs"] (sp_is_step K) := by
  refine T.F_is_step.ok sc_is_step (fun vs H Q E h => ?_) (fun cdv A outer s H vs Q E hr h => ?_)
  · obtain ⟨a, s, m, c, i, rfl, _⟩ := h
    rfl
  · obtain ⟨a, s, m, c, i, rfl, hs, ok, hm, q⟩ := h
    refine ⟨_, (pss_cons (ps_if (pt_not (pt_val (pe_callB (id := "isinstance") (r := rIsi K) call_isi (by rfl) T.m_isinstance (by decide +kernel) (pa_cons (pv 0) (pa_cons (pe_bltn (v := .ty "tuple") (by rfl) T.m_tuple (by decide +kernel) rfl) pa_nil)))))
      (pss_one (ps_ret pe_bl))
      pss_nil)
      (pss_one (ps_match (pv 0) (pcs_seq rfl op_eq (pcap_name 4 sc_is_step.nd rfl (.inl rfl) (pcap_name 5 sc_is_step.nd rfl (.inl rfl) (pcap_name 6 sc_is_step.nd rfl (.inl rfl) pcap_nil)))
      (pss_one (ps_ret (pe_and (pe_call (ok_is_below T) (hr.mono (by decide)) (by rfl) T.g_is_below T.F_is_below.kp T.b_is_below .nil pass0 (pa_cons (pv 4) (pa_cons (pv 2) pa_nil))) (pe_and (pe_call (ok_is_below T) (hr.mono (by decide)) (by rfl) T.g_is_below T.F_is_below.kp T.b_is_below .nil pass0 (pa_cons (pv 5) (pa_cons (pv 1) pa_nil))) (pe_one (pe_call (ok_are_factors T) hr (by rfl) T.g_are_factors T.F_are_factors.kp T.b_are_factors .nil pass0 (pa_cons (pv 6) (pa_cons (pv 4) (pa_cons (pv 2) (pa_cons (pv 3) pa_nil))))))))))
      (pcs_seq rfl op_eq (pcap_name 4 sc_is_step.nd rfl (.inl rfl) (pcap_name 7 sc_is_step.nd rfl (.inl rfl) pcap_nil))
      (pss_one (ps_ret (pe_and (pe_call (ok_is_below T) (hr.mono (by decide)) (by rfl) T.g_is_below T.F_is_below.kp T.b_is_below .nil pass0 (pa_cons (pv 4) (pa_cons (pv 2) pa_nil))) (pe_and (pe_call (ok_is_below T) (hr.mono (by decide)) (by rfl) T.g_is_below T.F_is_below.kp T.b_is_below .nil pass0 (pa_cons (pv 7) (pa_cons (pv 1) pa_nil))) (pe_one (pe_cmpR op_eq (pe_callBfun cr_gcd (by rfl) T.m_gcd (pa_cons (pv 7) (pa_cons (pv 1) pa_nil))) pe_int (nomark _)))))))
      (pcs_seq rfl op_eq (pcap_name 8 sc_is_step.nd rfl (.inl rfl) (pcap_name 9 sc_is_step.nd rfl (.inl rfl) pcap_nil))
      (pss_one (ps_ret (pe_and (pe_call (ok_is_below T) (hr.mono (by decide)) (by rfl) T.g_is_below T.F_is_below.kp T.b_is_below .nil pass0 (pa_cons (pv 8) (pa_cons (pv 2) pa_nil))) (pe_and (pe_call (ok_is_below T) (hr.mono (by decide)) (by rfl) T.g_is_below T.F_is_below.kp T.b_is_below .nil pass0 (pa_cons (pv 9) (pa_cons (pv 2) pa_nil))) (pe_one (pe_cmpR op_ne (pv 8) (pv 9) (nomark _)))))))
      (pcs_seq rfl op_eq (pcap_name 4 sc_is_step.nd rfl (.inl rfl) (pcap_name 10 sc_is_step.nd rfl (.inl rfl) (pcap_name 11 sc_is_step.nd rfl (.inl rfl) (pcap_name 8 sc_is_step.nd rfl (.inl rfl) (pcap_name 9 sc_is_step.nd rfl (.inl rfl) pcap_nil)))))
      (pss_one (ps_ret (pe_and (pe_call (ok_are_three_cells T) (hr.mono (by decide)) (by rfl) T.g_are_three_cells T.F_are_three_cells.kp T.b_are_three_cells .nil pass0 (pa_cons (pv 4) (pa_cons (pv 8) (pa_cons (pv 9) (pa_cons (pv 2) pa_nil))))) (pe_and (pe_call (ok_is_sign T) (hr.mono (by decide)) (by rfl) T.g_is_sign T.F_is_sign.kp T.b_is_sign .nil pass0 (pa_cons (pv 10) (pa_cons (pv 1) pa_nil))) (pe_one (pe_call (ok_is_table T) hr (by rfl) T.g_is_table T.F_is_table.kp T.b_is_table .nil pass0 (pa_cons (pv 11) (pa_cons (pv 1) pa_nil))))))))
      (pcs_else (rest := _) (pss_one (ps_ret pe_bl)))))))))), ?_⟩
    walk_at "start"
    cases s with
    | add t k fs =>
      obtain ⟨f, as, h1, h2, h3, h4⟩ := hs
      obtain ⟨o1, o2, o3, o4, o5⟩ := ok
      walk_at "x"
      walk_at "is"
      walk_at "f"
      refine x_caseY (st_of h1) rfl ?_
      walk_at "xb"
      refine ⟨_, _, rfl, .int _, ?_⟩
      rw [isB_int (by omega) (by omega)]
      walk_at "x"
      walk_at "t"
      refine ⟨_, _, rfl, .int _, ?_⟩
      rw [isB_int o2 o3]
      walk_at "x"
      walk_at "t"
      exact ⟨f, as, fs, t, c, i, rfl, h2, h3, h4, o4, o5, q⟩
    | scale t u =>
      have h1 : H a = some (.tup [.str "scale", .int (t : Int), .int u]) := hs
      obtain ⟨o1, o2, o3, o4⟩ := ok
      walk_at "x"
      walk_at "is"
      walk_at "f"
      refine x_caseNo (st_of h1) (Nat.ne_of_beq_eq_false rfl) ?_
      refine x_caseY (st_of h1) rfl ?_
      walk_at "xb"
      refine ⟨_, _, rfl, .int _, ?_⟩
      rw [isB_int (by omega) (by omega)]
      walk_at "x"
      walk_at "t"
      refine ⟨_, _, rfl, .int _, ?_⟩
      rw [isB_int o2 o3]
      walk_at "x"
      walk_at "t"
      refine ⟨u, (m : Int), rfl, ?_⟩
      walk_at "x"
      have e : ((Nat.gcd u.natAbs ((m : Int)).natAbs : Nat) : Int) = 1 := by
        have : Nat.gcd u.natAbs ((m : Int)).natAbs = 1 := o4
        rw [this]; rfl
      rw [e, decide_eq_true rfl]
      exact q H (Same.refl _)
    | swap x y =>
      have h1 : H a = some (.tup [.str "swap", .int (x : Int), .int (y : Int)]) := hs
      obtain ⟨o1, o2, o3⟩ := ok
      walk_at "x"
      walk_at "is"
      walk_at "f"
      refine x_caseNo (st_of h1) (Nat.ne_of_beq_eq_false rfl) ?_
      refine x_caseW (st_of h1) rfl (by decide) ?_
      refine x_caseY (st_of h1) rfl ?_
      walk_at "xb"
      refine ⟨_, _, rfl, .int _, ?_⟩
      rw [isB_int (by omega) (by omega)]
      walk_at "x"
      walk_at "t"
      refine ⟨_, _, rfl, .int _, ?_⟩
      rw [isB_int (by omega) (by omega)]
      walk_at "x"
      walk_at "t"
      rw [decide_eq_false (show ¬ (x : Int) = (y : Int) by omega)]
      exact q H (Same.refl _)
    | tab t g tb x y =>
      obtain ⟨o, h1, h2⟩ := hs
      obtain ⟨o1, o2, o3, o4, o5, o6, o7, o8, o9, o10⟩ := ok
      walk_at "x"
      walk_at "is"
      walk_at "f"
      refine x_caseNo (st_of h1) (Nat.ne_of_beq_eq_false rfl) ?_
      refine x_caseNo (st_of h1) (Nat.ne_of_beq_eq_false rfl) ?_
      refine x_caseNo (st_of h1) (Nat.ne_of_beq_eq_false rfl) ?_
      refine x_caseY (st_of h1) rfl ?_
      walk_at "xb"
      refine ⟨t, x, y, c, rfl, o1, o2, o3, o4, o5, o6, fun H1 s1 => ?_⟩
      walk_at "x"
      walk_at "t"
      refine ⟨g, m, rfl, hm, o7, fun H2 s2 => ?_⟩
      walk_at "x"
      walk_at "t"
      exact ⟨o, tb, m, rfl, (h2.tups (Tups.same s1)).tups (Tups.same s2), o8, o9, fun H3 s3 => q H3 ((s1.trans s2).trans s3)⟩


end
end Br
namespace Br
open PySem PySem.Spec PyProof.Rows L2
local macro_rules | `(tactic| walk_at "x1") => `(tactic| (with_reducible first
  | refine Br.x_seq ?_ | refine Br.x_set ?_ | refine Br.x_asg ?_ | refine Br.x_next ?_ | refine Br.x_ret ?_ | refine Br.x_retN ?_ | refine Br.x_drop ?_ | refine Br.x_if ?_ | refine Br.x_brk ?_ | refine Br.x_cont ?_
  | refine Br.x_c ?_ | refine Br.x_op ?_ | refine Br.x_un ?_ | refine Br.x_I0 ?_ | refine Br.x_U ?_ | refine Br.x_EqI ?_ | refine Br.x_NeI ?_ | refine Br.x_EqB ?_ | refine Br.x_iN ?_ | refine Br.x_int1 ?_ | refine Br.x_min2 ?_ | refine Br.x_max2 ?_ | refine Br.x_nN ?_ | refine Br.x_ifE ?_
  | refine Br.x_test (b := ()) ?_ | refine Br.x_tB ?_ | refine Br.x_bl ?_ | refine Br.x_and ?_ | refine Br.x_or ?_ | refine Br.x_not ?_ | refine Br.x_andV ?_ | refine Br.x_orV ?_ | refine Br.x_notV ?_ | refine Br.x_blP ?_
  | refine Br.x_nil ?_ | refine Br.x_cons ?_ | refine Br.x_call ?_ | refine Br.x_CB ?_ | refine Br.x_BM ?_ | refine Br.x_tup ?_ | refine Br.x_lst ?_ | refine Br.x_chain ?_ | refine Br.x_par ?_ | refine Br.x_gSub ?_ | refine Br.x_gName ?_ | refine Br.x_fld ?_ | refine Br.x_fldS ?_ | refine Br.x_match ?_ | refine Br.x_else ?_ | refine Br.x_noCase ?_))
local macro_rules | `(tactic| walk_at "xv") => `(tactic| ((with_reducible refine' Br.x_var ?hvar ?_); (case hvar => rfl)))
local macro_rules | `(tactic| walk_at "xd") => `(tactic| (dsimp only [List.set_cons_zero, List.set_cons_succ, List.cons_append, List.nil_append, List.append_nil]))
local macro_rules | `(tactic| walk_at "xi") => `(tactic| ((with_reducible refine Br.x_I ?hside ?_); (case hside => first | exact Br.mul_r (by decide) (by decide) | exact Br.mul_l (by decide) (by decide) | exact Br.mul_l (by omega) (by omega) | exact Br.mul_r (by omega) (by omega) | (show (0 : Int) < _; first | decide | omega) | exact ⟨by decide, by decide⟩ | exact ⟨by omega, by omega⟩ | exact ⟨by decide, by decide, by decide⟩)))
local macro_rules | `(tactic| walk_at "x") => `(tactic| (repeat (first | walk_at "x1" | walk_at "xv" | walk_at "xi" | walk_at "xd")))
local macro_rules | `(tactic| walk_at "start") => `(tactic| (simp only [L2.start, List.map_cons, List.map_nil, List.length_cons, List.length_nil, Nat.reduceAdd, Nat.reduceSub, List.replicate, List.cons_append, List.nil_append, List.append_nil]))
local macro_rules | `(tactic| walk_at "isi") => `(tactic| first
  | refine Br.x_isi (b := true) (.base (.int _)) (by decide +kernel) ?_ | refine Br.x_isi (b := false) (.base (.int _)) (by decide +kernel) ?_
  | refine Br.x_isi (b := true) (.base (.bl _)) (by decide +kernel) ?_ | refine Br.x_isi (b := false) (.base (.bl _)) (by decide +kernel) ?_
  | refine Br.x_isi (b := false) (.base .non) (by decide +kernel) ?_
  | refine Br.x_isi (b := true) (.base (.str _)) (by decide +kernel) ?_ | refine Br.x_isi (b := false) (.base (.str _)) (by decide +kernel) ?_
  | refine Br.x_isi (b := true) (.base (.tup (by assumption))) (by decide +kernel) ?_ | refine Br.x_isi (b := false) (.base (.tup (by assumption))) (by decide +kernel) ?_
  | refine Br.x_isi (b := true) (.base (.lst (by assumption))) (by decide +kernel) ?_ | refine Br.x_isi (b := false) (.base (.lst (by assumption))) (by decide +kernel) ?_)
local macro_rules | `(tactic| walk_at "f") => `(tactic| (refine L2.iteF ?_; walk_at "x"))
local macro_rules | `(tactic| walk_at "t") => `(tactic| (refine L2.iteT ?_; walk_at "x"))
local macro_rules | `(tactic| walk_at "is") => `(tactic| (walk_at "isi"; walk_at "x"))
local macro_rules | `(tactic| walk_at "xb") => `(tactic| (simp only [Br.bindS, List.set_cons_zero, List.set_cons_succ]; walk_at "x"))

section
variable {P : Program} {w : World} {K : PySem.W.Frag} {mg : Str → Option Value} {base : Heap}

open Br.F

def sp_product_of (K : PySem.W.Frag) : Sp := fun vs H Q _ => ∃ (f mo io : Addr) (as : List Addr) (fs : List Fac) (t c i m : Nat) (mv iv : List Int), vs = [.ref f, .ref mo, .ref io, .int (m : Int)] ∧ H f = some (.tup (as.map V.ref)) ∧ as.length = fs.length ∧ (∀ (k : Nat) x b, fs[k]? = some x → as[k]? = some b → FacAt H b x) ∧
  (∀ x, x ∈ fs → FacOk c i t x) ∧ H mo = some (.lst (mv.map V.int)) ∧ H io = some (.lst (iv.map V.int)) ∧ Mem m c mv ∧ Mem m i iv ∧ 2 ≤ m ∧ m ≤ 1000000000 ∧ ∀ r : Int, 0 ≤ r → r < m → (m : Int) ∣ r - prodV mv iv fs → Q (.int r) H
theorem prodV_snoc {mv iv : List Int} {f : Fac} : ∀ {fs : List Fac}, prodV mv iv (fs ++ [f]) = prodV mv iv fs * facV mv iv f
  | [] => by show facV mv iv f * 1 = 1 * facV mv iv f; rw [Int.mul_one, Int.one_mul]
  | x :: fs => by
    show facV mv iv x * prodV mv iv (fs ++ [f]) = facV mv iv x * prodV mv iv fs * facV mv iv f
    rw [prodV_snoc, Int.mul_assoc]
theorem ok_product_of (T : Txt K mg) : FnOk P w K mg base CX0 1 T.a_product_of T.fd_product_of ["factors", "memory", "given", "modulus"] (sp_product_of K) := by
  refine T.F_product_of.ok sc_product_of (fun vs H Q E h => ?_) (fun cdv A outer s H vs Q E hr h => ?_)
  · obtain ⟨f, mo, io, as, fs, t, c, i, m, mv, iv, rfl, _⟩ := h
    rfl
  · obtain ⟨f, mo, io, as, fs, t, c, i, m, mv, iv, rfl, hf, hl, hfa, ok, hm, hi, mm, mi, m2, m9, q⟩ := h
    refine ⟨_, (pss_cons (ps_set (i := 4) sc_product_of.nd rfl (.inl rfl) pe_int)
      (pss_cons (ps_for PassesOwn.never rfl (pi_tup (pv 0)) (pg_tup rfl (pgs_cons (pg_name (i := 5) sc_product_of.nd rfl (Or.inl rfl)) (pgs_cons (pg_name (i := 6) sc_product_of.nd rfl (Or.inl rfl)) pgs_nil)))
      (pss_cons (ps_set (i := 7) sc_product_of.nd rfl (.inl rfl) (pe_ifExp (pt_cmpR op_eq (pv 5) pe_str (nomark _)) (pe_ix (r := rIxL K) ix_list (pv 1) (pv 6) (fun _ _ => rfl)) (pe_ix (r := rIxL K) ix_list (pv 2) (pv 6) (fun _ _ => rfl))))
      (pss_one (ps_set (i := 4) sc_product_of.nd rfl (.inl rfl) (pe_op op_mod (pe_op op_mul (pv 4) (pv 7)) (pv 3))))))
      (pss_one (ps_ret (pv 4))))), ?_⟩
    walk_at "start"
    walk_at "x"
    refine x_forI (J := Itt K f) (n := (as.map V.ref).length) (G := fun H => SqT K H f (as.map V.ref)) (fun R r => ⟨_, rfl, f, rfl, ⟨_, st_of hf⟩, r⟩) walk_tup (fun k σ' H' => H = H' ∧ ∃ r v5 v6 v7, σ' = [some (.ref f), some (.ref mo), some (.ref io), some (.int (m : Int)), some (.int r), v5, v6, v7] ∧ 0 ≤ r ∧ r < m ∧ (m : Int) ∣ r - prodV mv iv (fs.take k))
      ⟨rfl, 1, _, _, _, rfl, by decide, by omega, 0, rfl⟩ (fun k σ' H' _ z => by rw [← z.1]; exact st_of hf) ?_ ?_
    · rintro k x σ' H' H2 hk ⟨rfl, r, v5, v6, v7, rfl, r0, r1, rd⟩ ⟨rfl, hx⟩
      obtain ⟨b, hb, rfl⟩ := map_getR hx
      have hk : k < fs.length := by
        have := (List.getElem?_eq_some_iff.mp hb).1
        omega
      obtain ⟨y, hy⟩ : ∃ y, fs[k]? = some y := ⟨_, List.getElem?_eq_getElem hk⟩
      have oky := ok y (List.mem_of_getElem? hy)
      have hfy := hfa k y b hy hb
      have fin : ∀ z : Int, z = facV mv iv y → (m : Int) ∣ r * z % m - prodV mv iv (fs.take (k + 1)) := fun z hz => by
        rw [take_snoc hy, prodV_snoc, ← hz]
        exact dvd_step rd
      cases y with
      | cell j =>
        have hfy : H2 b = some (.tup [.str "cell", .int (j : Int)]) := hfy
        obtain ⟨z, gz, ez, z0, z1⟩ := mm.get oky.1
        refine x_gTup2 (st_of hfy) ?_
        walk_at "x"
        refine x_Eq rfl ?_
        walk_at "x"
        rw [decide_eq_true rfl]
        walk_at "t"
        refine x_ixL (v := .int z) (sq_of hm) (atI_nat (by rw [List.getElem?_map, gz]; rfl)) ?_
        walk_at "x"
        exact ⟨rfl, _, _, _, _, rfl, Int.emod_nonneg _ (by omega), Int.emod_lt_of_pos _ (by omega), fin z ez.symm⟩
      | inp j =>
        have hfy : H2 b = some (.tup [.str "input", .int (j : Int)]) := hfy
        obtain ⟨z, gz, ez, z0, z1⟩ := mi.get (show j < i from oky)
        refine x_gTup2 (st_of hfy) ?_
        walk_at "x"
        refine x_Eq rfl ?_
        walk_at "x"
        rw [decide_eq_false (by decide)]
        walk_at "f"
        refine x_ixL (v := .int z) (sq_of hi) (atI_nat (by rw [List.getElem?_map, gz]; rfl)) ?_
        walk_at "x"
        exact ⟨rfl, _, _, _, _, rfl, Int.emod_nonneg _ (by omega), Int.emod_lt_of_pos _ (by omega), fin z ez.symm⟩
    · rintro σ' H' ⟨rfl, r, v5, v6, v7, rfl, r0, r1, rd⟩
      walk_at "x"
      refine q r r0 r1 ?_
      rw [List.length_map, hl, List.take_length] at rd
      exact rd


/-- pairs of a cell and its new content -/
def ChAt (H : Hp) (l : Addr) (cs : List (Nat × Int)) : Prop := ∃ as : List Addr, H l = some (.lst (as.map V.ref)) ∧ as.length = cs.length ∧ ∀ (i : Nat) (x : Nat × Int) b, cs[i]? = some x → as[i]? = some b → H b = some (.tup [.int (x.1 : Int), .int x.2])
def applyC (cs : List (Nat × Int)) (mv : List Int) : List Int := cs.foldl (fun m x => m.set x.1 x.2) mv
def sp_changes (K : PySem.W.Frag) : Sp := fun vs H Q _ => ∃ (a mo io : Addr) (s : Stp) (c i m : Nat) (mv iv : List Int), vs = [.ref a, .ref mo, .ref io, .int (m : Int)] ∧ StpAt H a s ∧ StpOk m c i s ∧ H mo = some (.lst (mv.map V.int)) ∧ H io = some (.lst (iv.map V.int)) ∧ Mem m c mv ∧ Mem m i iv ∧ 2 ≤ m ∧ m ≤ 1000000000 ∧
  ∀ (l : Addr) (cs : List (Nat × Int)) (H' : Hp), H l = none → Same H H' → ChAt H' l cs → applyC cs mv = stepF m iv mv s → cs.length ≤ 2 → (∀ x, x ∈ cs → x.1 < c) → Q (.ref l) H'
theorem ch_one {H : Hp} {p l : Addr} {t : Nat} {z : Int} (hp : H p = none) (hl : (L2.upd H p (.tup [.int (t : Int), .int z])) l = none) : Same H (L2.upd (L2.upd H p (.tup [.int (t : Int), .int z])) l (.lst [.ref p])) ∧ ChAt (L2.upd (L2.upd H p (.tup [.int (t : Int), .int z])) l (.lst [.ref p])) l [(t, z)] := by
  refine ⟨(same_upd hp).trans (same_upd hl), [p], upd_same, rfl, fun i x b e1 e2 => ?_⟩
  match i, e1, e2 with
  | 0, e1, e2 =>
    cases e1
    cases e2
    rw [upd_ne (ne_of_none upd_same hl), upd_same]
  | i + 1, e1, _ => simp at e1
theorem mod_cong {m : Nat} {a b c r : Int} (h : (m : Int) ∣ r - c) : (a + b * r) % m = (a + b * c) % m := by
  refine Int.emod_eq_emod_iff_emod_sub_eq_zero.mpr (Int.emod_eq_zero_of_dvd ?_)
  obtain ⟨k, hk⟩ := h
  refine ⟨b * k, ?_⟩
  have e : r = c + m * k := by omega
  rw [e]
  grind
theorem ok_changes (T : Txt K mg) : FnOk P w K mg base CX0 4 T.a_changes T.fd_changes ["step", "memory", "given", "modulus"] (sp_changes K) := by
  refine T.F_changes.ok sc_changes (fun vs H Q E h => ?_) (fun cdv A outer s H vs Q E hr h => ?_)
  · obtain ⟨a, mo, io, s, c, i, m, mv, iv, rfl, _⟩ := h
    rfl
  · obtain ⟨a, mo, io, s, c, i, m, mv, iv, rfl, hs, ok, hm, hi, mm, mi, m2, m9, q⟩ := h
    refine ⟨_, (pss_one (ps_match (pv 0) (pcs_seq rfl op_eq (pcap_name 4 sc_changes.nd rfl (.inl rfl) (pcap_name 5 sc_changes.nd rfl (.inl rfl) (pcap_name 6 sc_changes.nd rfl (.inl rfl) pcap_nil)))
      (pss_cons (ps_set (i := 7) sc_changes.nd rfl (.inl rfl) (pe_op op_mul (pv 5) (pe_call (ok_product_of T) (hr.mono (by decide)) (by rfl) T.g_product_of T.F_product_of.kp T.b_product_of .nil pass0 (pa_cons (pv 6) (pa_cons (pv 1) (pa_cons (pv 2) (pa_cons (pv 3) pa_nil)))))))
      (pss_one (ps_ret (pe_lst (pa_cons (pe_tup (pa_cons (pv 4) (pa_cons (pe_op op_mod (pe_op op_add (pe_ix (r := rIxL K) ix_list (pv 1) (pv 4) (fun _ _ => rfl)) (pv 7)) (pv 3)) pa_nil))) pa_nil)))))
      (pcs_seq rfl op_eq (pcap_name 4 sc_changes.nd rfl (.inl rfl) (pcap_name 8 sc_changes.nd rfl (.inl rfl) pcap_nil))
      (pss_one (ps_ret (pe_lst (pa_cons (pe_tup (pa_cons (pv 4) (pa_cons (pe_op op_mod (pe_op op_mul (pe_ix (r := rIxL K) ix_list (pv 1) (pv 4) (fun _ _ => rfl)) (pv 8)) (pv 3)) pa_nil))) pa_nil))))
      (pcs_seq rfl op_eq (pcap_name 9 sc_changes.nd rfl (.inl rfl) (pcap_name 10 sc_changes.nd rfl (.inl rfl) pcap_nil))
      (pss_one (ps_ret (pe_lst (pa_cons (pe_tup (pa_cons (pv 9) (pa_cons (pe_ix (r := rIxL K) ix_list (pv 1) (pv 10) (fun _ _ => rfl)) pa_nil))) (pa_cons (pe_tup (pa_cons (pv 10) (pa_cons (pe_ix (r := rIxL K) ix_list (pv 1) (pv 9) (fun _ _ => rfl)) pa_nil))) pa_nil)))))
      (pcs_seq rfl op_eq (pcap_name 4 sc_changes.nd rfl (.inl rfl) (pcap_name 11 sc_changes.nd rfl (.inl rfl) (pcap_name 12 sc_changes.nd rfl (.inl rfl) (pcap_name 9 sc_changes.nd rfl (.inl rfl) (pcap_name 10 sc_changes.nd rfl (.inl rfl) pcap_nil)))))
      (pss_cons (ps_set (i := 7) sc_changes.nd rfl (.inl rfl) (pe_op op_mul (pv 11) (pe_call (ok_interpolate T) hr (by rfl) T.g_interpolate T.F_interpolate.kp T.b_interpolate .nil pass0 (pa_cons (pv 12) (pa_cons (pv 3) (pa_cons (pe_ix (r := rIxL K) ix_list (pv 1) (pv 9) (fun _ _ => rfl)) (pa_cons (pe_ix (r := rIxL K) ix_list (pv 1) (pv 10) (fun _ _ => rfl)) pa_nil)))))))
      (pss_one (ps_ret (pe_lst (pa_cons (pe_tup (pa_cons (pv 4) (pa_cons (pe_op op_mod (pe_op op_add (pe_ix (r := rIxL K) ix_list (pv 1) (pv 4) (fun _ _ => rfl)) (pv 7)) (pv 3)) pa_nil))) pa_nil)))))
      pcs_nil)))))), ?_⟩
    walk_at "start"
    cases s with
    | add t k fs =>
      obtain ⟨f, as, h1, h2, h3, h4⟩ := hs
      obtain ⟨o1, o2, o3, o4, o5⟩ := ok
      obtain ⟨z, gz, ez, z0, z1⟩ := mm.get o1
      walk_at "x"
      refine x_caseY (st_of h1) rfl ?_
      walk_at "xb"
      refine ⟨f, mo, io, as, fs, t, c, i, m, mv, iv, rfl, h2, h3, h4, o5, hm, hi, mm, mi, m2, m9, fun r r0 r1 rd => ?_⟩
      walk_at "x"
      refine x_ixL (v := .int z) (sq_of hm) (atI_nat (by rw [List.getElem?_map, gz]; rfl)) ?_
      walk_at "x"
      refine ⟨by show 2 ≤ sizeLine; decide, fun p hp => ?_⟩
      walk_at "x"
      refine ⟨by show 1 ≤ sizeLine; decide, fun l hl => ?_⟩
      obtain ⟨sm, ch⟩ := ch_one hp hl
      refine q l _ _ ((same_upd hp).free hl) sm ch ?_ (Nat.le_of_ble_eq_true rfl) (fun x hx => by rw [List.mem_singleton.mp hx]; exact o1)
      show mv.set t ((z + k * r) % m) = mv.set t ((mv.getD t 0 + k * prodV mv iv fs) % m)
      rw [ez, mod_cong rd]
    | scale t u =>
      have h1 : H a = some (.tup [.str "scale", .int (t : Int), .int u]) := hs
      obtain ⟨o1, o2, o3, o4⟩ := ok
      obtain ⟨z, gz, ez, z0, z1⟩ := mm.get o1
      walk_at "x"
      refine x_caseNo (st_of h1) (Nat.ne_of_beq_eq_false rfl) ?_
      refine x_caseY (st_of h1) rfl ?_
      walk_at "xb"
      refine x_ixL (v := .int z) (sq_of hm) (atI_nat (by rw [List.getElem?_map, gz]; rfl)) ?_
      walk_at "x"
      refine ⟨by show 2 ≤ sizeLine; decide, fun p hp => ?_⟩
      walk_at "x"
      refine ⟨by show 1 ≤ sizeLine; decide, fun l hl => ?_⟩
      obtain ⟨sm, ch⟩ := ch_one hp hl
      refine q l _ _ ((same_upd hp).free hl) sm ch ?_ (Nat.le_of_ble_eq_true rfl) (fun x hx => by rw [List.mem_singleton.mp hx]; exact o1)
      show mv.set t (z * u % m) = mv.set t (mv.getD t 0 * u % m)
      rw [ez]
    | swap x y =>
      have h1 : H a = some (.tup [.str "swap", .int (x : Int), .int (y : Int)]) := hs
      obtain ⟨o1, o2, o3⟩ := ok
      obtain ⟨zx, gzx, ezx, _⟩ := mm.get o1
      obtain ⟨zy, gzy, ezy, _⟩ := mm.get o2
      walk_at "x"
      refine x_caseNo (st_of h1) (Nat.ne_of_beq_eq_false rfl) ?_
      refine x_caseW (st_of h1) rfl (by decide) ?_
      refine x_caseY (st_of h1) rfl ?_
      walk_at "xb"
      refine x_ixL (v := .int zy) (sq_of hm) (atI_nat (by rw [List.getElem?_map, gzy]; rfl)) ?_
      walk_at "x"
      refine ⟨by show 2 ≤ sizeLine; decide, fun p hp => ?_⟩
      walk_at "x"
      have hm1 := (same_upd (o := .tup [.int (x : Int), .int zy]) hp) _ _ hm
      refine x_ixL (v := .int zx) (sq_of hm1) (atI_nat (by rw [List.getElem?_map, gzx]; rfl)) ?_
      walk_at "x"
      refine ⟨by show 2 ≤ sizeLine; decide, fun p2 hp2 => ?_⟩
      walk_at "x"
      refine ⟨by show 2 ≤ sizeLine; decide, fun l hl => ?_⟩
      have s2 := (same_upd (o := .tup [.int (x : Int), .int zy]) hp).trans (same_upd (o := .tup [.int (y : Int), .int zx]) hp2)
      refine q l [(x, zy), (y, zx)] _ (s2.free hl) (s2.trans (same_upd hl)) ⟨[p, p2], upd_same, rfl, fun i w b e1 e2 => ?_⟩ ?_ (Nat.le_of_ble_eq_true rfl) (fun w hw => by
        have e : w = (x, zy) ∨ w = (y, zx) := by simpa using hw
        rcases e with rfl | rfl
        · exact o1
        · exact o2)
      · have hpl : (upd (upd H p (.tup [.int (x : Int), .int zy])) p2 (.tup [.int (y : Int), .int zx])) p = some (.tup [.int (x : Int), .int zy]) := same_upd hp2 _ _ upd_same
        match i, e1, e2 with
        | 0, e1, e2 =>
          cases e1
          cases e2
          exact same_upd hl _ _ hpl
        | 1, e1, e2 =>
          cases e1
          cases e2
          exact same_upd hl _ _ upd_same
        | i + 2, e1, _ => simp at e1
      · show (mv.set x zy).set y zx = (mv.set x (mv.getD y 0)).set y (mv.getD x 0)
        rw [ezx, ezy]
    | tab t g tb x y =>
      obtain ⟨o, h1, as, ht1, ht2, ht3⟩ := hs
      obtain ⟨o1, o2, o3, o4, o5, o6, o7, o8, o9, o10⟩ := ok
      obtain ⟨z, gz, ez, z0, z1⟩ := mm.get o1
      obtain ⟨zx, gzx, ezx, zx0, zx1⟩ := mm.get o2
      obtain ⟨zy, gzy, ezy, zy0, zy1⟩ := mm.get o3
      walk_at "x"
      refine x_caseNo (st_of h1) (Nat.ne_of_beq_eq_false rfl) ?_
      refine x_caseNo (st_of h1) (Nat.ne_of_beq_eq_false rfl) ?_
      refine x_caseNo (st_of h1) (Nat.ne_of_beq_eq_false rfl) ?_
      refine x_caseY (st_of h1) rfl ?_
      walk_at "xb"
      refine x_ixL (v := .int zx) (sq_of hm) (atI_nat (by rw [List.getElem?_map, gzx]; rfl)) ?_
      walk_at "x"
      refine x_ixL (v := .int zy) (sq_of hm) (atI_nat (by rw [List.getElem?_map, gzy]; rfl)) ?_
      walk_at "x"
      refine ⟨o, m, zx, zy, tb, rfl, ⟨as, st_of ht1, ht2, fun i r b e1 e2 => st_of (ht3 i r b e1 e2)⟩, o8, o9, o10, m9, zx0, zx1, zy0, zy1, fun v H1 hv v0 v1 s1 => ?_⟩
      have ev := hv.uniq o10 o8.le (ItpV.ok o10 o8.le)
      walk_at "x"
      refine x_ixL (v := .int z) (sq_of (s1 _ _ hm)) (atI_nat (by rw [List.getElem?_map, gz]; rfl)) ?_
      walk_at "x"
      refine ⟨by show 2 ≤ sizeLine; decide, fun p hp => ?_⟩
      walk_at "x"
      refine ⟨by show 1 ≤ sizeLine; decide, fun l hl => ?_⟩
      obtain ⟨sm, ch⟩ := ch_one hp hl
      refine q l _ _ (s1.free ((same_upd hp).free hl)) (s1.trans sm) ch ?_ (Nat.le_of_ble_eq_true rfl) (fun w hw => by rw [List.mem_singleton.mp hw]; exact o1)
      show mv.set t ((z + g * v) % m) = mv.set t ((mv.getD t 0 + g * ItpV m tb (mv.getD x 0) (mv.getD y 0)) % m)
      rw [ez, ezx, ezy, ev]


end
end Br
namespace Br
open PySem PySem.Spec PyProof.Rows L2
local macro_rules | `(tactic| walk_at "x1") => `(tactic| (with_reducible first
  | refine Br.x_seq ?_ | refine Br.x_set ?_ | refine Br.x_asg ?_ | refine Br.x_next ?_ | refine Br.x_ret ?_ | refine Br.x_retN ?_ | refine Br.x_drop ?_ | refine Br.x_if ?_ | refine Br.x_brk ?_ | refine Br.x_cont ?_
  | refine Br.x_c ?_ | refine Br.x_op ?_ | refine Br.x_un ?_ | refine Br.x_I0 ?_ | refine Br.x_U ?_ | refine Br.x_EqI ?_ | refine Br.x_NeI ?_ | refine Br.x_EqB ?_ | refine Br.x_iN ?_ | refine Br.x_int1 ?_ | refine Br.x_min2 ?_ | refine Br.x_max2 ?_ | refine Br.x_nN ?_ | refine Br.x_ifE ?_
  | refine Br.x_test (b := ()) ?_ | refine Br.x_tB ?_ | refine Br.x_bl ?_ | refine Br.x_and ?_ | refine Br.x_or ?_ | refine Br.x_not ?_ | refine Br.x_andV ?_ | refine Br.x_orV ?_ | refine Br.x_notV ?_ | refine Br.x_blP ?_
  | refine Br.x_nil ?_ | refine Br.x_cons ?_ | refine Br.x_call ?_ | refine Br.x_CB ?_ | refine Br.x_BM ?_ | refine Br.x_tup ?_ | refine Br.x_lst ?_ | refine Br.x_chain ?_ | refine Br.x_par ?_ | refine Br.x_gSub ?_ | refine Br.x_gName ?_ | refine Br.x_fld ?_ | refine Br.x_fldS ?_ | refine Br.x_match ?_ | refine Br.x_else ?_ | refine Br.x_noCase ?_))
local macro_rules | `(tactic| walk_at "xv") => `(tactic| ((with_reducible refine' Br.x_var ?hvar ?_); (case hvar => rfl)))
local macro_rules | `(tactic| walk_at "xd") => `(tactic| (dsimp only [List.set_cons_zero, List.set_cons_succ, List.cons_append, List.nil_append, List.append_nil]))
local macro_rules | `(tactic| walk_at "xi") => `(tactic| ((with_reducible refine Br.x_I ?hside ?_); (case hside => first | exact Br.mul_r (by decide) (by decide) | exact Br.mul_l (by decide) (by decide) | exact Br.mul_l (by omega) (by omega) | exact Br.mul_r (by omega) (by omega) | (show (0 : Int) < _; first | decide | omega) | exact ⟨by decide, by decide⟩ | exact ⟨by omega, by omega⟩ | exact ⟨by decide, by decide, by decide⟩)))
local macro_rules | `(tactic| walk_at "x") => `(tactic| (repeat (first | walk_at "x1" | walk_at "xv" | walk_at "xi" | walk_at "xd")))
local macro_rules | `(tactic| walk_at "start") => `(tactic| (simp only [L2.start, List.map_cons, List.map_nil, List.length_cons, List.length_nil, Nat.reduceAdd, Nat.reduceSub, List.replicate, List.cons_append, List.nil_append, List.append_nil]))
local macro_rules | `(tactic| walk_at "isi") => `(tactic| first
  | refine Br.x_isi (b := true) (.base (.int _)) (by decide +kernel) ?_ | refine Br.x_isi (b := false) (.base (.int _)) (by decide +kernel) ?_
  | refine Br.x_isi (b := true) (.base (.bl _)) (by decide +kernel) ?_ | refine Br.x_isi (b := false) (.base (.bl _)) (by decide +kernel) ?_
  | refine Br.x_isi (b := false) (.base .non) (by decide +kernel) ?_
  | refine Br.x_isi (b := true) (.base (.str _)) (by decide +kernel) ?_ | refine Br.x_isi (b := false) (.base (.str _)) (by decide +kernel) ?_
  | refine Br.x_isi (b := true) (.base (.tup (by assumption))) (by decide +kernel) ?_ | refine Br.x_isi (b := false) (.base (.tup (by assumption))) (by decide +kernel) ?_
  | refine Br.x_isi (b := true) (.base (.lst (by assumption))) (by decide +kernel) ?_ | refine Br.x_isi (b := false) (.base (.lst (by assumption))) (by decide +kernel) ?_)
local macro_rules | `(tactic| walk_at "f") => `(tactic| (refine L2.iteF ?_; walk_at "x"))
local macro_rules | `(tactic| walk_at "t") => `(tactic| (refine L2.iteT ?_; walk_at "x"))
local macro_rules | `(tactic| walk_at "is") => `(tactic| (walk_at "isi"; walk_at "x"))
local macro_rules | `(tactic| walk_at "xb") => `(tactic| (simp only [Br.bindS, List.set_cons_zero, List.set_cons_succ]; walk_at "x"))

section
variable {P : Program} {w : World} {K : PySem.W.Frag} {mg : Str → Option Value} {base : Heap}

open Br.F
theorem prime_I {m : Nat} (h : IsPrime m) : PrimeI (m : Int) := by
  refine ⟨by have := h.1; omega, fun d h2 hd he => ?_⟩
  obtain ⟨n, rfl⟩ : ∃ n : Nat, d = (n : Int) := ⟨d.toNat, by omega⟩
  have hdv : n ∣ m := Int.ofNat_dvd.mp (Int.dvd_of_emod_eq_zero he)
  rcases h.2 n hdv with e | e
  · omega
  · subst e
    have : (2 : Int) * n ≤ n * n := Int.mul_le_mul_of_nonneg_right h2 (by omega)
    omega

def sp_check_sizes (K : PySem.W.Frag) : Sp := fun vs H Q _ => ∃ (m c i : Nat), vs = [.int (m : Int), .int (c : Int), .int (i : Int)] ∧ 2 ≤ m ∧ m ≤ 1000000000 ∧ 1 ≤ c ∧ c ≤ 60 ∧ i ≤ 60 ∧ Q .non H
theorem ok_check_sizes (T : Txt K mg) : FnOk P w K mg base CX0 3 T.a_check_sizes T.fd_check_sizes ["modulus", "cells", "inputs"] (sp_check_sizes K) := by
  refine T.F_check_sizes.ok sc_check_sizes (fun vs H Q E h => ?_) (fun cdv A outer s H vs Q E hr h => ?_)
  · obtain ⟨m, c, i, rfl, _⟩ := h
    rfl
  · obtain ⟨m, c, i, rfl, m2, m9, c1, c60, i60, q⟩ := h
    refine ⟨_, (pss_cons (ps_if (pt_not (pt_val (pe_call (ok_is_modulus T) hr (by rfl) T.g_is_modulus T.F_is_modulus.kp T.b_is_modulus .nil pass0 (pa_cons (pv 0) pa_nil))))
      (pss_one ps_never)
      pss_nil)
      (pss_cons (ps_if (PW.pt (pw_or (pt_not (pt_val (pe_call (ok_is_below T) (hr.mono (by decide)) (by rfl) T.g_is_below T.F_is_below.kp T.b_is_below .nil pass0 (pa_cons (pv 1) (pa_cons (pe_op op_add (pe_glob (v := .int 60) (by rfl) T.c_MOST_CELLS_programs ⟨_, rfl⟩) pe_int) pa_nil))))) (pw_or1 (pt_cmpR op_eq (pv 1) pe_int (nomark _)))))
      (pss_one ps_never)
      pss_nil)
      (pss_one (ps_if (pt_not (pt_val (pe_call (ok_is_below T) (hr.mono (by decide)) (by rfl) T.g_is_below T.F_is_below.kp T.b_is_below .nil pass0 (pa_cons (pv 2) (pa_cons (pe_op op_add (pe_glob (v := .int 60) (by rfl) T.c_MOST_INPUTS ⟨_, rfl⟩) pe_int) pa_nil)))))
      (pss_one ps_never)
      pss_nil)))), ?_⟩
    walk_at "start"
    walk_at "x"
    refine ⟨_, rfl, .int _, ?_⟩
    have e : (isB (.int (m : Int)) 1000000001 && !isB (.int (m : Int)) 2) = true := by
      rw [isB_int (by omega) (by omega)]
      show (true && !(decide (0 ≤ (m : Int)) && decide ((m : Int) < 2))) = true
      rw [decide_eq_false (show ¬ (m : Int) < 2 by omega), Bool.and_false]; rfl
    rw [e]
    walk_at "x"
    walk_at "f"
    refine ⟨_, _, rfl, .int _, ?_⟩
    rw [isB_int (by omega) (by omega)]
    walk_at "x"
    walk_at "f"
    rw [decide_eq_false (show ¬ (c : Int) = 0 by omega)]
    walk_at "f"
    refine ⟨_, _, rfl, .int _, ?_⟩
    rw [isB_int (by omega) (by omega)]
    walk_at "x"
    walk_at "f"
    exact q


def stW : Stp → Str
  | .add .. => "add"
  | .scale .. => "scale"
  | .swap .. => "swap"
  | .tab .. => "table"
def isT : Stp → Bool
  | .tab .. => true
  | _ => false
theorem StpAt.head {H : Hp} {a : Addr} : ∀ {s : Stp}, StpAt H a s → ∃ ys, H a = some (.tup (.str (stW s) :: ys))
  | .add .., h => by obtain ⟨f, as, h1, _⟩ := h; exact ⟨_, h1⟩
  | .scale .., h => ⟨_, h⟩
  | .swap .., h => ⟨_, h⟩
  | .tab .., h => by obtain ⟨c, h1, _⟩ := h; exact ⟨_, h1⟩
theorem stW_tab (s : Stp) : decide (V.str (stW s) = V.str "table") = isT s := by
  cases s with
  | add => exact decide_eq_false (fun e => absurd (show ("add" : Str) = "table" from V.str.inj e) (by decide))
  | scale => exact decide_eq_false (fun e => absurd (show ("scale" : Str) = "table" from V.str.inj e) (by decide))
  | swap => exact decide_eq_false (fun e => absurd (show ("swap" : Str) = "table" from V.str.inj e) (by decide))
  | tab => exact decide_eq_true rfl
def sp_check_steps (K : PySem.W.Frag) : Sp := fun vs H Q _ => ∃ (L : Addr) (as : List Addr) (ss : List Stp) (m c i : Nat), vs = [.ref L, .int (m : Int), .int (c : Int), .int (i : Int)] ∧ H L = some (.lst (as.map V.ref)) ∧ StpsAt H as ss ∧ ss.length ≤ 20000 ∧ (∀ s, s ∈ ss → StpOk m c i s) ∧ 2 ≤ m ∧ m ≤ 1000000000 ∧
  ∀ H', Same H H' → Q .non H'
theorem ok_check_steps (T : Txt K mg) : FnOk P w K mg base CX0 5 T.a_check_steps T.fd_check_steps ["steps", "modulus", "cells", "inputs"] (sp_check_steps K) := by
  refine T.F_check_steps.ok sc_check_steps (fun vs H Q E h => ?_) (fun cdv A outer s H vs Q E hr h => ?_)
  · obtain ⟨L, as, ss, m, c, i, rfl, _⟩ := h
    rfl
  · obtain ⟨L, as, ss, m, c, i, rfl, hL, hA, hn, ok, m2, m9, q⟩ := h
    have hal := hA.1
    refine ⟨_, (pss_cons (ps_if (PW.pt (pw_or (pt_not (pt_val (pe_callB (id := "isinstance") (r := rIsi K) call_isi (by rfl) T.m_isinstance (by decide +kernel) (pa_cons (pv 0) (pa_cons (pe_bltn (v := .ty "list") (by rfl) T.m_list (by decide +kernel) rfl) pa_nil))))) (pw_or1 (pt_cmpR op_gt (pe_callB (id := "len") (r := rLen K) cr_len (by rfl) T.m_len PySem.boot_len (pa_cons (pv 0) pa_nil)) (pe_glob (v := .int 20000) (by rfl) T.c_MOST_STEPS ⟨_, rfl⟩) (nomark _)))))
      (pss_one ps_never)
      pss_nil)
      (pss_cons (ps_for PassesOwn.never rfl (pi_enum (by rfl) T.m_enumerate (pa_cons (pv 0) pa_nil)) (pg_tup rfl (pgs_cons (pg_name (i := 4) sc_check_steps.nd rfl (Or.inl rfl)) (pgs_cons (pg_name (i := 5) sc_check_steps.nd rfl (Or.inl rfl)) pgs_nil)))
      (pss_one (ps_if (pt_not (pt_val (pe_call (ok_is_step T) hr (by rfl) T.g_is_step T.F_is_step.kp T.b_is_step .nil pass0 (pa_cons (pv 5) (pa_cons (pv 1) (pa_cons (pv 2) (pa_cons (pv 3) pa_nil)))))))
      (pss_one ps_never)
      pss_nil)))
      (pss_one (ps_if (PW.pt (pw_and (pt_val (pe_callB (id := "any") (r := rAny K) (cr_any rfl) (by rfl) T.m_any (by decide +kernel) (pa_cons (pe_lc (own := [("step", 5)]) (g := gName 5) (tt := tYes) rfl sc_check_steps.nd (pi_list (pv 0)) (blkOk_by (N := N_check_steps) (sc := defScope s_check_steps) (by decide +kernel)) (fun _ _ _ _ _ => (pg_name (i := 5) sc_check_steps.nd rfl (Or.inl rfl))) (fun _ _ _ _ _ => pts_nil) (fun _ _ _ _ _ => (pe_cmpR op_eq (pe_ix (r := rIxT K) ix_tup (pv 5) pe_int (fun _ _ => rfl)) pe_str (nomark _)))) pa_nil))) (pw_and1 (pt_not (pt_val (pe_call (ok_is_prime T) (hr.mono (by decide)) (by rfl) T.g_is_prime T.F_is_prime.kp T.b_is_prime .nil pass0 (pa_cons (pv 1) pa_nil)))))))
      (pss_one ps_never)
      pss_nil)))), ?_⟩
    walk_at "start"
    walk_at "x"
    walk_at "is"
    walk_at "f"
    refine x_len (sq_of hL) ?_
    walk_at "x"
    rw [List.length_map, hal, decide_eq_false (show ¬ (20000 : Int) < (ss.length : Int) by omega)]
    walk_at "f"
    refine x_forI (J := Ite K L) (n := (as.map V.ref).length) (G := fun H => SqL K H L (as.map V.ref)) (fun R r => by unfold iEnum; walk_at "x"; exact ⟨L, _, rfl, sq_of hL, r⟩) walk_enum (fun k σ' H' => Same H H' ∧ ∃ v4 v5, σ' = [some (.ref L), some (.int (m : Int)), some (.int (c : Int)), some (.int (i : Int)), v4, v5])
      ⟨Same.refl _, _, _, rfl⟩ (fun k σ' H' _ z => sq_of (z.1 _ _ hL)) ?_ ?_
    · rintro k _ σ' H' H2 hk ⟨hs, v4, v5, rfl⟩ ⟨o, x, y, rfl, ho, rfl, gx, gy⟩
      cases gx
      obtain ⟨b, hb, rfl⟩ := map_getR gy
      obtain ⟨s, hs1, hs2⟩ := hA.get hb
      have s3 : Same H (upd H' o (.tup [.int (k : Int), .ref b])) := sput hs (sfree hs ho)
      refine x_gTup2 (st_of upd_same) ?_
      walk_at "x"
      refine ⟨b, s, m, c, i, rfl, hs2.tups (Tups.same s3), ok s (List.mem_of_getElem? hs1), m2, fun H4 s4 => ?_⟩
      walk_at "x"
      walk_at "f"
      exact ⟨s3.trans s4, _, _, rfl⟩
    · rintro σ' H' ⟨hs, v4, v5, rfl⟩
      have hL' := hs _ _ hL
      walk_at "x"
      refine x_lcB (xs := as.map V.ref) (fun k => match ss[k]? with | some s => isT s | none => false) (J := Itl K L) (G := fun H => SqL K H L (as.map V.ref)) (fun R r => ⟨_, rfl, L, rfl, ⟨_, sq_of hL'⟩, r⟩) walk_list (by rw [List.length_map]; omega) (fun H2 s => sq_of (s _ _ hL')) (fun x => rfl) ?_ ?_
      · intro k x H2 s2 hx R hR
        obtain ⟨b, hb, rfl⟩ := map_getR hx
        obtain ⟨s, hs1, hs2⟩ := hA.get hb
        obtain ⟨ys, hy⟩ := (hs2.tups (Tups.same (hs.trans s2))).head
        walk_at "x"
        refine x_ixT (v := .str (stW s)) (st_of hy) (atI_nat (j := 0) rfl) ?_
        walk_at "x"
        refine x_Eq rfl ?_
        rw [stW_tab]
        have e : (match ss[k]? with | some s => isT s | none => false) = isT s := by rw [hs1]
        rw [← e]
        exact hR H2 (Same.refl _)
      · intro p H2 hp s2 hP
        walk_at "x"
        refine x_any hP ?_
        walk_at "x"
        refine x_iteB (fun hb => ?_) (fun hb => ?_)
        · have hm : IsPrime m := by
            obtain ⟨b, hb1, hb2⟩ := List.any_eq_true.mp hb
            obtain ⟨k, hk, rfl⟩ := List.mem_map.mp hb1
            have hk := List.mem_range.mp hk
            rw [List.length_map, hal] at hk
            have e : (match ss[k]? with | some s => isT s | none => false) = true := hb2
            rw [List.getElem?_eq_getElem hk] at e
            have okk := ok ss[k] (List.getElem_mem hk)
            generalize ss[k] = s at e okk
            cases s with
            | tab t g tb x y => exact okk.2.2.2.2.2.2.2.2.2
            | add => cases e
            | scale => cases e
            | swap => cases e
          walk_at "x"
          refine ⟨_, rfl, by omega, by omega, fun b hbp => ?_⟩
          walk_at "x"
          have e : b = true := hbp.mpr (prime_I hm)
          subst e
          walk_at "f"
          exact q H2 (hs.trans s2)
        · walk_at "f"
          exact q H2 (hs.trans s2)

/-! ### programs -/
structure PC (K : PySem.W.Frag) (C : Addr) : Prop where
  cl : Cls K C
  m : NoAttr K C "modulus"
  c : NoAttr K C "cells"
  i : NoAttr K C "inputs"
  s : NoAttr K C "steps"
def progF (m c i : Int) (L : Addr) : List (Str × V) := [("modulus", V.int m), ("cells", V.int c), ("inputs", V.int i), ("steps", V.ref L)]
theorem progF_m {m c i : Int} {L : Addr} : (progF m c i L).lookup ("modulus" : Str) = some (V.int m) := rfl
theorem progF_c {m c i : Int} {L : Addr} : (progF m c i L).lookup ("cells" : Str) = some (V.int c) := rfl
theorem progF_i {m c i : Int} {L : Addr} : (progF m c i L).lookup ("inputs" : Str) = some (V.int i) := rfl
theorem progF_s {m c i : Int} {L : Addr} : (progF m c i L).lookup ("steps" : Str) = some (V.ref L) := rfl
theorem progF_mk {m c i : Int} {L : Addr} : putF "steps" (V.ref L) (putF "inputs" (V.int i) (putF "cells" (V.int c) (putF "modulus" (V.int m) []))) = progF m c i L := rfl
/-- a program at p: its steps' list at L -/
structure PrAt (K : PySem.W.Frag) (C : Addr) (H : Hp) (p L : Addr) (as : List Addr) (ss : List Stp) (m c i : Nat) : Prop where
  ob : ∃ dx, H p = some (.ins C dx (progF m c i L)) ∧ PC K C
  lst : H L = some (.lst (as.map V.ref))
  st : StpsAt H as ss
theorem PrAt.same {K : PySem.W.Frag} {C : Addr} {H H' : Hp} {p L : Addr} {as : List Addr} {ss : List Stp} {m c i : Nat} (h : PrAt K C H p L as ss m c i) (s : Same H H') : PrAt K C H' p L as ss m c i := by
  obtain ⟨dx, h1, h2⟩ := h.ob
  exact ⟨⟨dx, s _ _ h1, h2⟩, s _ _ h.lst, h.st.tups (Tups.same s)⟩
structure PrOk (ss : List Stp) (m c i : Nat) : Prop where
  m2 : 2 ≤ m
  m9 : m ≤ 1000000000
  c1 : 1 ≤ c
  c60 : c ≤ 60
  i60 : i ≤ 60
  len : ss.length ≤ 20000
  ok : ∀ s, s ∈ ss → StpOk m c i s

def sp_Program___init (K : PySem.W.Frag) : Sp := fun vs H Q _ => ∃ (p C dx L : Addr) (as : List Addr) (ss : List Stp) (m c i : Nat), vs = [.ref p, .int (m : Int), .int (c : Int), .int (i : Int), .ref L] ∧ H p = some (.ins C dx []) ∧ PC K C ∧ H L = some (.lst (as.map V.ref)) ∧ StpsAt H as ss ∧ PrOk ss m c i ∧
  ∀ (L' : Addr) (H' : Hp), H L' = none → (∀ b o, H b = some o → b ≠ p → H' b = some o) → PrAt K C H' p L' as ss m c i → Q .non H'
theorem ok_Program___init (T : Txt K mg) : FnOk P w K mg base CX0 6 T.a_Program___init T.fd_Program___init ["self", "modulus", "cells", "inputs", "steps"] (sp_Program___init K) := by
  refine T.F_Program___init.ok sc_Program___init (fun vs H Q E h => ?_) (fun cdv A outer s H vs Q E hr h => ?_)
  · obtain ⟨p, C, dx, L, as, ss, m, c, i, rfl, _⟩ := h
    rfl
  · obtain ⟨p, C, dx, L, as, ss, m, c, i, rfl, hp, hC, hL, hA, ok, q⟩ := h
    refine ⟨_, (pss_cons (ps_expr (pe_call (ok_check_sizes T) (hr.mono (by decide)) (by rfl) T.g_check_sizes T.F_check_sizes.kp T.b_check_sizes .nil pass0 (pa_cons (pv 1) (pa_cons (pv 2) (pa_cons (pv 3) pa_nil)))))
      (pss_cons (ps_expr (pe_call (ok_check_steps T) hr (by rfl) T.g_check_steps T.F_check_steps.kp T.b_check_steps .nil pass0 (pa_cons (pv 4) (pa_cons (pv 1) (pa_cons (pv 2) (pa_cons (pv 3) pa_nil))))))
      (pss_cons (ps_fld (pv 0) (pv 1) rfl)
      (pss_cons (ps_fld (pv 0) (pv 2) rfl)
      (pss_cons (ps_fld (pv 0) (pv 3) rfl)
      (pss_one (ps_fld (pv 0) (pe_callTy (T := "list") (r := rListOf K) cr_list_of (by rfl) T.m_list (by decide +kernel) (pa_cons (pv 4) pa_nil)) rfl))))))), ?_⟩
    walk_at "start"
    walk_at "x"
    refine ⟨m, c, i, rfl, ok.m2, ok.m9, ok.c1, ok.c60, ok.i60, ?_⟩
    walk_at "x"
    refine ⟨L, as, ss, m, c, i, rfl, hL, hA, ok.len, ok.ok, ok.m2, ok.m9, fun H1 s1 => ?_⟩
    have hp1 := s1 _ _ hp
    have hL1 := s1 _ _ hL
    walk_at "x"
    refine ⟨p, C, dx, _, rfl, hp1, hC.cl, hC.m, by decide, ?_⟩
    walk_at "x"
    refine ⟨p, C, dx, _, rfl, upd_same, hC.cl, hC.c, by show 1 < 1000; decide, ?_⟩
    walk_at "x"
    refine ⟨p, C, dx, _, rfl, upd_same, hC.cl, hC.i, by show 2 < 1000; decide, ?_⟩
    walk_at "x"
    have hpL : L ≠ p := ne_of hL1 hp1 (by intro z; cases z)
    refine x_listL (sq_of (by rw [upd_ne hpL, upd_ne hpL, upd_ne hpL]; exact hL1)) fun L' hL' => ?_
    have hpL' : p ≠ L' := ne_of_none upd_same hL'
    have hL'1 : H1 L' = none := by
      rw [upd_ne hpL'.symm, upd_ne hpL'.symm, upd_ne hpL'.symm] at hL'
      exact hL'
    walk_at "x"
    refine ⟨p, C, dx, _, rfl, by rw [upd_ne hpL', upd_same], hC.cl, hC.s, by show 3 < 1000; decide, ?_⟩
    rw [progF_mk]
    generalize hU : upd (upd _ _ _) _ _ = U
    have keep : ∀ b o, H b = some o → b ≠ p → U b = some o := fun b o e hb => by
      rw [← hU, upd_ne hb, upd_ne (ne_of_none (s1 _ _ e) hL'1), upd_ne hb, upd_ne hb, upd_ne hb]
      exact s1 _ _ e
    refine q L' U (s1.free hL'1) keep ⟨⟨dx, by rw [← hU]; exact upd_same, hC⟩, by rw [← hU, upd_ne hpL'.symm, upd_same], hA.tups fun b xs e => keep b _ e (ne_of e hp (by intro z; cases z))⟩


end
end Br
namespace Br
open PySem PySem.Spec PyProof.Rows L2
local macro_rules | `(tactic| walk_at "x1") => `(tactic| (with_reducible first
  | refine Br.x_seq ?_ | refine Br.x_set ?_ | refine Br.x_asg ?_ | refine Br.x_next ?_ | refine Br.x_ret ?_ | refine Br.x_retN ?_ | refine Br.x_drop ?_ | refine Br.x_if ?_ | refine Br.x_brk ?_ | refine Br.x_cont ?_
  | refine Br.x_c ?_ | refine Br.x_op ?_ | refine Br.x_un ?_ | refine Br.x_I0 ?_ | refine Br.x_U ?_ | refine Br.x_EqI ?_ | refine Br.x_NeI ?_ | refine Br.x_EqB ?_ | refine Br.x_iN ?_ | refine Br.x_int1 ?_ | refine Br.x_min2 ?_ | refine Br.x_max2 ?_ | refine Br.x_nN ?_ | refine Br.x_ifE ?_
  | refine Br.x_test (b := ()) ?_ | refine Br.x_tB ?_ | refine Br.x_bl ?_ | refine Br.x_and ?_ | refine Br.x_or ?_ | refine Br.x_not ?_ | refine Br.x_andV ?_ | refine Br.x_orV ?_ | refine Br.x_notV ?_ | refine Br.x_blP ?_
  | refine Br.x_nil ?_ | refine Br.x_cons ?_ | refine Br.x_call ?_ | refine Br.x_CB ?_ | refine Br.x_BM ?_ | refine Br.x_tup ?_ | refine Br.x_lst ?_ | refine Br.x_chain ?_ | refine Br.x_par ?_ | refine Br.x_gSub ?_ | refine Br.x_gName ?_ | refine Br.x_fld ?_ | refine Br.x_fldS ?_ | refine Br.x_match ?_ | refine Br.x_else ?_ | refine Br.x_noCase ?_))
local macro_rules | `(tactic| walk_at "xv") => `(tactic| ((with_reducible refine' Br.x_var ?hvar ?_); (case hvar => rfl)))
local macro_rules | `(tactic| walk_at "xd") => `(tactic| (dsimp only [List.set_cons_zero, List.set_cons_succ, List.cons_append, List.nil_append, List.append_nil]))
local macro_rules | `(tactic| walk_at "xi") => `(tactic| ((with_reducible refine Br.x_I ?hside ?_); (case hside => first | exact Br.mul_r (by decide) (by decide) | exact Br.mul_l (by decide) (by decide) | exact Br.mul_l (by omega) (by omega) | exact Br.mul_r (by omega) (by omega) | (show (0 : Int) < _; first | decide | omega) | exact ⟨by decide, by decide⟩ | exact ⟨by omega, by omega⟩ | exact ⟨by decide, by decide, by decide⟩)))
local macro_rules | `(tactic| walk_at "x") => `(tactic| (repeat (first | walk_at "x1" | walk_at "xv" | walk_at "xi" | walk_at "xd")))
local macro_rules | `(tactic| walk_at "start") => `(tactic| (simp only [L2.start, List.map_cons, List.map_nil, List.length_cons, List.length_nil, Nat.reduceAdd, Nat.reduceSub, List.replicate, List.cons_append, List.nil_append, List.append_nil]))
local macro_rules | `(tactic| walk_at "isi") => `(tactic| first
  | refine Br.x_isi (b := true) (.base (.int _)) (by decide +kernel) ?_ | refine Br.x_isi (b := false) (.base (.int _)) (by decide +kernel) ?_
  | refine Br.x_isi (b := true) (.base (.bl _)) (by decide +kernel) ?_ | refine Br.x_isi (b := false) (.base (.bl _)) (by decide +kernel) ?_
  | refine Br.x_isi (b := false) (.base .non) (by decide +kernel) ?_
  | refine Br.x_isi (b := true) (.base (.str _)) (by decide +kernel) ?_ | refine Br.x_isi (b := false) (.base (.str _)) (by decide +kernel) ?_
  | refine Br.x_isi (b := true) (.base (.tup (by assumption))) (by decide +kernel) ?_ | refine Br.x_isi (b := false) (.base (.tup (by assumption))) (by decide +kernel) ?_
  | refine Br.x_isi (b := true) (.base (.lst (by assumption))) (by decide +kernel) ?_ | refine Br.x_isi (b := false) (.base (.lst (by assumption))) (by decide +kernel) ?_)
local macro_rules | `(tactic| walk_at "f") => `(tactic| (refine L2.iteF ?_; walk_at "x"))
local macro_rules | `(tactic| walk_at "t") => `(tactic| (refine L2.iteT ?_; walk_at "x"))
local macro_rules | `(tactic| walk_at "is") => `(tactic| (walk_at "isi"; walk_at "x"))
local macro_rules | `(tactic| walk_at "xb") => `(tactic| (simp only [Br.bindS, List.set_cons_zero, List.set_cons_succ]; walk_at "x"))

section
variable {P : Program} {w : World} {K : PySem.W.Frag} {mg : Str → Option Value} {base : Heap}

open Br.F
theorem Mem.odd {m n : Nat} {xs : List Int} (h : Mem m n xs) : (decide (((xs.map V.int).length : Int) = (n : Int)) && (xs.map V.int).all fun x => isB x (m : Int)) = true := by
  rw [List.length_map, h.len, decide_eq_true rfl, Bool.true_and, List.all_eq_true]
  intro x hx
  obtain ⟨z, hz, rfl⟩ := List.mem_map.mp hx
  exact isB_int (h.rg z hz).1 (h.rg z hz).2
theorem applyC_snoc {cs : List (Nat × Int)} {x : Nat × Int} {mv : List Int} : applyC (cs ++ [x]) mv = (applyC cs mv).set x.1 x.2 := by
  unfold applyC
  rw [List.foldl_append]
  rfl
theorem applyC_len {cs : List (Nat × Int)} : ∀ {mv : List Int}, (applyC cs mv).length = mv.length := by
  induction cs with
  | nil => intro mv; rfl
  | cons x cs ih => intro mv; exact ih.trans (List.length_set ..)
theorem map_set {xs : List Int} {i : Nat} {z : Int} : (xs.map V.int).set i (.int z) = (xs.set i z).map V.int := by rw [List.map_set]


def sp_performed (K : PySem.W.Frag) : Sp := fun vs H Q _ => ∃ (L mo io : Addr) (as : List Addr) (ss : List Stp) (m c i : Nat) (mv iv : List Int), vs = [.ref L, .ref mo, .ref io, .int (m : Int)] ∧ SqL K H L (as.map V.ref) ∧ StpsAt H as ss ∧ PrOk ss m c i ∧ SqL K H mo (mv.map V.int) ∧ H io = some (.lst (iv.map V.int)) ∧ Mem m c mv ∧ Mem m i iv ∧
  ∀ l H', H l = none → Same H H' → H' l = some (.lst ((runF m iv ss mv).map V.int)) → Q (.ref l) H'
theorem ok_performed (T : Txt K mg) : FnOk P w K mg base CX0 5 T.a_performed T.fd_performed ["steps", "memory", "given", "modulus"] (sp_performed K) := by
  refine T.F_performed.ok sc_performed (fun vs H Q E h => ?_) (fun cdv A outer s H vs Q E hr h => ?_)
  · obtain ⟨L, mo, io, as, ss, m, c, i, mv, iv, rfl, _⟩ := h
    rfl
  · obtain ⟨L, mo, io, as, ss, m, c, i, mv, iv, rfl, hL, hst, ok, hm, hi, mm, mi, q⟩ := h
    have hm1 : 1 ≤ m := Nat.le_trans (by decide) ok.m2
    have m2 := ok.m2
    have m9 := ok.m9
    have c60 := ok.c60
    have i60 := ok.i60
    refine ⟨_, (pss_cons (ps_set (i := 4) sc_performed.nd rfl (.inl rfl) (pe_callTy (T := "list") (r := rListOf K) cr_list_of (by rfl) T.m_list (by decide +kernel) (pa_cons (pv 1) pa_nil)))
      (pss_cons (ps_for PassesOwn.never rfl (pi_list (pv 0)) (pg_name (i := 5) sc_performed.nd rfl (Or.inl rfl))
      (pss_cons (ps_set (i := 6) sc_performed.nd rfl (.inl rfl) (pe_call (ok_changes T) hr (by rfl) T.g_changes T.F_changes.kp T.b_changes .nil pass0 (pa_cons (pv 5) (pa_cons (pv 4) (pa_cons (pv 2) (pa_cons (pv 3) pa_nil))))))
      (pss_one (ps_for PassesOwn.never rfl (pi_list (pv 6)) (pg_tup rfl (pgs_cons (pg_name (i := 7) sc_performed.nd rfl (Or.inl rfl)) (pgs_cons (pg_name (i := 8) sc_performed.nd rfl (Or.inl rfl)) pgs_nil)))
      (pss_one (ps_asg (pv 8) (pg_sub (pv 4) (pv 7) set_list)))))))
      (pss_one (ps_ret (pv 4))))), ?_⟩
    walk_at "start"
    walk_at "x"
    refine x_listL hm fun l hl => ?_
    have hl0 := hl
    have s3 := same_upd (o := .lst (mv.map V.int)) hl
    have hl3 : (upd H l (.lst (mv.map V.int))) l = some (.lst (mv.map V.int)) := upd_same
    generalize upd H l (.lst (mv.map V.int)) = H3 at s3 hl3
    walk_at "x"
    refine x_forL (p := L) (as.map V.ref) (fun k σ' H' => ∃ v4 v5 v6 v7, σ' = [some (.ref L), some (.ref mo), some (.ref io), some (.int (m : Int)), some (.ref l), v4, v5, v6, v7] ∧ Same H H' ∧ H' l = some (.lst ((runF m iv (ss.take k) mv).map V.int)))
      (fun R r => by walk_at "x"; exact r) (s3.seq hL) ⟨_, _, _, _, rfl, s3, hl3⟩ (fun k σ' H' _ z => by obtain ⟨_, _, _, _, _, z, _⟩ := z; exact z.seq hL) ?_ ?_
    · rintro k x σ' H4 hx ⟨v4, v5, v6, v7, rfl, s4, hl4⟩
      obtain ⟨b, hb, rfl⟩ := map_getR hx
      obtain ⟨s, hs1, hs2⟩ := hst.get hb
      have oks := ok.ok s (List.mem_of_getElem? hs1)
      have mr : Mem m c (runF m iv (ss.take k) mv) := runF_mem hm1 mm fun s hs => ok.ok s (List.mem_of_mem_take hs)
      walk_at "x"
      refine ⟨b, l, io, s, c, i, m, _, iv, rfl, hs2.tups (Tups.same s4), oks, hl4, s4 _ _ hi, mr, mi, m2, m9, fun lc cs H5 hlc s5 hch hap hcl hcc => ?_⟩
      have hlc' : lc ≠ l := fun e => by rw [e, hl4] at hlc; cases hlc
      have hl5 := s5 _ _ hl4
      obtain ⟨bs, hb1, hb2, hb3⟩ := hch
      walk_at "x"
      refine x_forL (p := lc) (bs.map V.ref) (fun j σ' H' => ∃ v6 v7, σ' = [some (.ref L), some (.ref mo), some (.ref io), some (.int (m : Int)), some (.ref l), some (.ref b), some (.ref lc), v6, v7] ∧ Keep l H5 H' ∧ H' l = some (.lst ((applyC (cs.take j) (runF m iv (ss.take k) mv)).map V.int)))
        (fun R r => by walk_at "x"; exact r) (sq_of hb1) ⟨_, _, rfl, Keep.refl _ _, hl5⟩ (fun j σ' H' _ z => by obtain ⟨_, _, _, z, _⟩ := z; exact sq_of (z _ _ hb1 hlc')) ?_ ?_
      · rintro j x σ' H6 hx ⟨v6, v7, rfl, k6, hl6⟩
        obtain ⟨o, ho, rfl⟩ := map_getR hx
        have hj : j < cs.length := by
          have := (List.getElem?_eq_some_iff.mp ho).1
          omega
        have gj := List.getElem?_eq_getElem hj
        have hcj := hcc _ (List.getElem_mem hj)
        generalize cs[j] = w at gj hcj
        have h5 := hb3 j w o gj ho
        have h6 := k6 _ _ h5 (ne_of h5 hl5 (by intro z; cases z))
        refine x_gTup2 (st_of h6) ?_
        walk_at "x"
        have hlen : ((applyC (cs.take j) (runF m iv (ss.take k) mv)).map V.int).length = c := by rw [List.length_map, applyC_len, mr.len]
        refine x_subL (k := w.1) hl6 (by rw [hlen]; exact ixN_nat hcj) ?_
        walk_at "x"
        refine ⟨_, _, rfl, k6.trans keep_upd, ?_⟩
        rw [upd_same, map_set, take_snoc gj, applyC_snoc]
      · rintro σ' H6 ⟨v6, v7, rfl, k6, hl6⟩
        refine ⟨_, _, _, _, rfl, same_keep hl0 (s4.trans s5) k6, ?_⟩
        rw [take_snoc hs1, runF_snoc, ← hap, hl6, List.length_map, hb2, List.take_length]
    · rintro σ' H4 ⟨v4, v5, v6, v7, rfl, s4, hl4⟩
      walk_at "x"
      refine q l _ hl0 s4 ?_
      rw [hl4, List.length_map, hst.1, List.take_length]




open Br Br.F
/-- a list of values of any kind, or a tuple; apart from the draws -/
inductive NumsAt (d : Addr) (H : Hp) : V → Option (List V) → Prop
  | lst (l : Addr) (xs : List V) (h : H l = some (.lst xs)) (hd : l ≠ d) (hn : xs.length ≤ 200) (ho : ∀ x, x ∈ xs → Odd H x ∧ x ≠ .ref d) : NumsAt d H (.ref l) (some xs)
  | tup (l : Addr) (xs : List V) (h : H l = some (.tup xs)) : NumsAt d H (.ref l) none
theorem Odd.keep {d : Addr} {H H' : Hp} {v : V} (h : Odd H v) (hv : v ≠ .ref d) (k : Keep d H H') : Odd H' v := by
  cases h with
  | int i => exact .int i
  | bl b => exact .bl b
  | non => exact .non
  | str x => exact .str x
  | tup a xs h => exact .tup a xs (k _ _ h fun e => hv (by rw [e]))
  | lst a xs h => exact .lst a xs (k _ _ h fun e => hv (by rw [e]))
theorem NumsAt.keep {d n : Addr} {H H' : Hp} {v : V} {o : Option (List V)} (h : NumsAt d H v o) (hD : Dr H d n) (k : Keep d H H') : NumsAt d H' v o := by
  cases h with
  | lst l xs h hd hn ho => exact .lst l xs (k _ _ h hd) hd hn fun x hx => ⟨(ho x hx).1.keep (ho x hx).2 k, (ho x hx).2⟩
  | tup l xs h =>
    obtain ⟨_, _, h2, _⟩ := hD
    exact .tup l xs (k _ _ h (ne_of h h2 (by intro z; cases z)))
theorem NumsAt.ints {d l : Addr} {H : Hp} {ns : List Int} (h : H l = some (.lst (ns.map V.int))) (hd : l ≠ d) (hn : ns.length ≤ 100) : NumsAt d H (.ref l) (some (ns.map V.int)) :=
  .lst l _ h hd (by rw [List.length_map]; omega) fun x hx => by
    obtain ⟨z, _, rfl⟩ := List.mem_map.mp hx
    exact ⟨.int z, by intro e; cases e⟩
/-- do they belong to a program -/
def belF (o : Option (List V)) (n m : Int) : Bool := match o with
  | some xs => decide ((xs.length : Int) = n) && xs.all fun x => isB x m
  | none => false
theorem NumsAt.same {d : Addr} {H H' : Hp} {v : V} {o : Option (List V)} (h : NumsAt d H v o) (k : Same H H') : NumsAt d H' v o := by
  cases h with
  | lst l xs h hd hn ho => exact .lst l xs (k _ _ h) hd hn fun x hx => ⟨(ho x hx).1.same k, (ho x hx).2⟩
  | tup l xs h => exact .tup l xs (k _ _ h)
theorem belF_mem {o : Option (List V)} {n m : Nat} (h : belF o (n : Int) (m : Int) = true) : ∃ ns : List Int, o = some (ns.map V.int) ∧ Mem m n ns := by
  cases o with
  | none => cases h
  | some xs =>
    have h : (decide ((xs.length : Int) = (n : Int)) && xs.all fun x => isB x (m : Int)) = true := h
    rw [Bool.and_eq_true, decide_eq_true_iff] at h
    have : ∀ xs : List V, (xs.all fun x => isB x (m : Int)) = true → ∃ ns : List Int, xs = ns.map V.int ∧ Rg 0 m ns := by
      intro xs
      induction xs with
      | nil => intro _; exact ⟨[], rfl, .nil⟩
      | cons x xs ih =>
        intro h
        rw [List.all_cons, Bool.and_eq_true] at h
        obtain ⟨ns, rfl, hr⟩ := ih h.2
        cases x with
        | int i =>
          have h1 : (decide (0 ≤ i) && decide (i < (m : Int))) = true := h.1
          rw [Bool.and_eq_true, decide_eq_true_iff, decide_eq_true_iff] at h1
          refine ⟨i :: ns, rfl, fun z hz => ?_⟩
          rcases List.mem_cons.mp hz with rfl | hz
          · exact h1
          · exact hr z hz
        | _ => cases h.1
    obtain ⟨ns, rfl, hr⟩ := this xs h.2
    exact ⟨ns, rfl, ⟨by have := h.1; rw [List.length_map] at this; omega, hr⟩⟩
/-- what are_numbers asks of them -/
theorem NumsAt.ask {d : Addr} {H : Hp} {v : V} {o : Option (List V)} {n m : Int} {Q : VK} {E : XK} {K : PySem.W.Frag} (h : NumsAt d H v o) (q : ∀ H', Same H H' → Q (.bl (belF o n m)) H') : sp_are_numbers K [v, .int n, .int m] H Q E := by
  cases h with
  | lst l xs h hd hn ho => exact ⟨_, n, m, rfl, .inl ⟨l, xs, rfl, h, by omega, fun x hx => (ho x hx).1, q⟩⟩
  | tup l xs h => exact ⟨_, n, m, rfl, .inr ⟨.tup _ _ h, (fun a ys e => by cases e; rw [h]; exact fun z => by cases z), q H (Same.refl _)⟩⟩

end
end Br
namespace Br
open PySem PySem.Spec PyProof.Rows L2
local macro_rules | `(tactic| walk_at "x1") => `(tactic| (with_reducible first
  | refine Br.x_seq ?_ | refine Br.x_set ?_ | refine Br.x_asg ?_ | refine Br.x_next ?_ | refine Br.x_ret ?_ | refine Br.x_retN ?_ | refine Br.x_drop ?_ | refine Br.x_if ?_ | refine Br.x_brk ?_ | refine Br.x_cont ?_
  | refine Br.x_c ?_ | refine Br.x_op ?_ | refine Br.x_un ?_ | refine Br.x_I0 ?_ | refine Br.x_U ?_ | refine Br.x_EqI ?_ | refine Br.x_NeI ?_ | refine Br.x_EqB ?_ | refine Br.x_iN ?_ | refine Br.x_int1 ?_ | refine Br.x_min2 ?_ | refine Br.x_max2 ?_ | refine Br.x_nN ?_ | refine Br.x_ifE ?_
  | refine Br.x_test (b := ()) ?_ | refine Br.x_tB ?_ | refine Br.x_bl ?_ | refine Br.x_and ?_ | refine Br.x_or ?_ | refine Br.x_not ?_ | refine Br.x_andV ?_ | refine Br.x_orV ?_ | refine Br.x_notV ?_ | refine Br.x_blP ?_
  | refine Br.x_nil ?_ | refine Br.x_cons ?_ | refine Br.x_call ?_ | refine Br.x_CB ?_ | refine Br.x_BM ?_ | refine Br.x_tup ?_ | refine Br.x_lst ?_ | refine Br.x_chain ?_ | refine Br.x_par ?_ | refine Br.x_gSub ?_ | refine Br.x_gName ?_ | refine Br.x_fld ?_ | refine Br.x_fldS ?_ | refine Br.x_match ?_ | refine Br.x_else ?_ | refine Br.x_noCase ?_))
local macro_rules | `(tactic| walk_at "xv") => `(tactic| ((with_reducible refine' Br.x_var ?hvar ?_); (case hvar => rfl)))
local macro_rules | `(tactic| walk_at "xd") => `(tactic| (dsimp only [List.set_cons_zero, List.set_cons_succ, List.cons_append, List.nil_append, List.append_nil]))
local macro_rules | `(tactic| walk_at "xi") => `(tactic| ((with_reducible refine Br.x_I ?hside ?_); (case hside => first | exact Br.mul_r (by decide) (by decide) | exact Br.mul_l (by decide) (by decide) | exact Br.mul_l (by omega) (by omega) | exact Br.mul_r (by omega) (by omega) | (show (0 : Int) < _; first | decide | omega) | exact ⟨by decide, by decide⟩ | exact ⟨by omega, by omega⟩ | exact ⟨by decide, by decide, by decide⟩)))
local macro_rules | `(tactic| walk_at "x") => `(tactic| (repeat (first | walk_at "x1" | walk_at "xv" | walk_at "xi" | walk_at "xd")))
local macro_rules | `(tactic| walk_at "start") => `(tactic| (simp only [L2.start, List.map_cons, List.map_nil, List.length_cons, List.length_nil, Nat.reduceAdd, Nat.reduceSub, List.replicate, List.cons_append, List.nil_append, List.append_nil]))
local macro_rules | `(tactic| walk_at "isi") => `(tactic| first
  | refine Br.x_isi (b := true) (.base (.int _)) (by decide +kernel) ?_ | refine Br.x_isi (b := false) (.base (.int _)) (by decide +kernel) ?_
  | refine Br.x_isi (b := true) (.base (.bl _)) (by decide +kernel) ?_ | refine Br.x_isi (b := false) (.base (.bl _)) (by decide +kernel) ?_
  | refine Br.x_isi (b := false) (.base .non) (by decide +kernel) ?_
  | refine Br.x_isi (b := true) (.base (.str _)) (by decide +kernel) ?_ | refine Br.x_isi (b := false) (.base (.str _)) (by decide +kernel) ?_
  | refine Br.x_isi (b := true) (.base (.tup (by assumption))) (by decide +kernel) ?_ | refine Br.x_isi (b := false) (.base (.tup (by assumption))) (by decide +kernel) ?_
  | refine Br.x_isi (b := true) (.base (.lst (by assumption))) (by decide +kernel) ?_ | refine Br.x_isi (b := false) (.base (.lst (by assumption))) (by decide +kernel) ?_)
local macro_rules | `(tactic| walk_at "f") => `(tactic| (refine L2.iteF ?_; walk_at "x"))
local macro_rules | `(tactic| walk_at "t") => `(tactic| (refine L2.iteT ?_; walk_at "x"))
local macro_rules | `(tactic| walk_at "is") => `(tactic| (walk_at "isi"; walk_at "x"))
local macro_rules | `(tactic| walk_at "xb") => `(tactic| (simp only [Br.bindS, List.set_cons_zero, List.set_cons_succ]; walk_at "x"))

section
variable {P : Program} {w : World} {K : PySem.W.Frag} {mg : Str → Option Value} {base : Heap}

open Br.F

def sp_inverse_step (K : PySem.W.Frag) : Sp := fun vs H Q _ => ∃ (a : Addr) (s : Stp) (m c i : Nat), vs = [.ref a, .int (m : Int)] ∧ StpAt H a s ∧ StpOk m c i s ∧ 2 ≤ m ∧ m ≤ 1000000000 ∧
  ∀ (b : Addr) (s' : Stp) (H' : Hp), IsBack m s s' → Same H H' → StpAt H' b s' → Q (.ref b) H'
theorem ok_inverse_step (T : Txt K mg) : FnOk P w K mg base CX0 2 T.a_inverse_step T.fd_inverse_step ["step", "modulus"] (sp_inverse_step K) := by
  refine T.F_inverse_step.ok sc_inverse_step (fun vs H Q E h => ?_) (fun cdv A outer s H vs Q E hr h => ?_)
  · obtain ⟨a, s, m, c, i, rfl, _⟩ := h
    rfl
  · obtain ⟨a, s, m, c, i, rfl, hs, ok, m2, m9, q⟩ := h
    refine ⟨_, (pss_one (ps_match (pv 0) (pcs_seq rfl op_eq (pcap_name 2 sc_inverse_step.nd rfl (.inl rfl) (pcap_name 3 sc_inverse_step.nd rfl (.inl rfl) (pcap_name 4 sc_inverse_step.nd rfl (.inl rfl) pcap_nil)))
      (pss_one (ps_ret (pe_tup (pa_cons pe_str (pa_cons (pv 2) (pa_cons (pe_op op_mod (pe_op op_sub (pv 1) (pv 3)) (pv 1)) (pa_cons (pv 4) pa_nil)))))))
      (pcs_seq rfl op_eq (pcap_name 2 sc_inverse_step.nd rfl (.inl rfl) (pcap_name 5 sc_inverse_step.nd rfl (.inl rfl) pcap_nil))
      (pss_one (ps_ret (pe_tup (pa_cons pe_str (pa_cons (pv 2) (pa_cons (pe_call (ok_inverse_of T) hr (by rfl) T.g_inverse_of T.F_inverse_of.kp T.b_inverse_of .nil pass0 (pa_cons (pv 5) (pa_cons (pv 1) pa_nil))) pa_nil))))))
      (pcs_seq rfl op_eq (pcap_wild (pcap_wild pcap_nil))
      (pss_one (ps_ret (pv 0)))
      (pcs_seq rfl op_eq (pcap_name 2 sc_inverse_step.nd rfl (.inl rfl) (pcap_name 6 sc_inverse_step.nd rfl (.inl rfl) (pcap_name 7 sc_inverse_step.nd rfl (.inl rfl) (pcap_name 8 sc_inverse_step.nd rfl (.inl rfl) (pcap_name 9 sc_inverse_step.nd rfl (.inl rfl) pcap_nil)))))
      (pss_one (ps_ret (pe_tup (pa_cons pe_str (pa_cons (pv 2) (pa_cons (pe_op op_sub (pv 1) (pv 6)) (pa_cons (pv 7) (pa_cons (pv 8) (pa_cons (pv 9) pa_nil)))))))))
      pcs_nil)))))), ?_⟩
    walk_at "start"
    cases s with
    | add t k fs =>
      obtain ⟨f, as, h1, h2, h3, h4⟩ := hs
      walk_at "x"
      refine x_caseY (st_of h1) rfl ?_
      walk_at "xb"
      refine ⟨by show 4 ≤ sizeLine; decide, fun p hp => ?_⟩
      exact q p (.add t (((m : Int) - k) % m) fs) _ rfl (same_upd hp) ⟨f, as, upd_same, same_upd hp _ _ h2, h3, fun i x b e1 e2 => (h4 i x b e1 e2).tups (Tups.same (same_upd hp))⟩
    | scale t u =>
      have h1 : H a = some (.tup [.str "scale", .int (t : Int), .int u]) := hs
      obtain ⟨o1, o2, o3, o4⟩ := ok
      walk_at "x"
      refine x_caseNo (st_of h1) (Nat.ne_of_beq_eq_false rfl) ?_
      refine x_caseY (st_of h1) rfl ?_
      walk_at "xb"
      refine ⟨u, (m : Int), rfl, by omega, by omega, fun v H1 hv s1 => ?_⟩
      obtain ⟨w, rfl, w0, w1, hw⟩ := hv.2 o4
      walk_at "x"
      refine ⟨by show 3 ≤ sizeLine; decide, fun p hp => ?_⟩
      exact q p (.scale t w) _ ⟨w, rfl, w0, w1, hw⟩ (s1.trans (same_upd hp)) upd_same
    | swap x y =>
      have h1 : H a = some (.tup [.str "swap", .int (x : Int), .int (y : Int)]) := hs
      walk_at "x"
      refine x_caseNo (st_of h1) (Nat.ne_of_beq_eq_false rfl) ?_
      refine x_caseW (st_of h1) rfl (by decide) ?_
      refine x_caseY (st_of h1) rfl ?_
      walk_at "xb"
      exact q a (.swap x y) _ rfl (Same.refl _) h1
    | tab t g tb x y =>
      obtain ⟨o, h1, hT⟩ := hs
      walk_at "x"
      refine x_caseNo (st_of h1) (Nat.ne_of_beq_eq_false rfl) ?_
      refine x_caseNo (st_of h1) (Nat.ne_of_beq_eq_false rfl) ?_
      refine x_caseNo (st_of h1) (Nat.ne_of_beq_eq_false rfl) ?_
      refine x_caseY (st_of h1) rfl ?_
      walk_at "xb"
      refine ⟨by show 6 ≤ sizeLine; decide, fun p hp => ?_⟩
      exact q p (.tab t ((m : Int) - g) tb x y) _ rfl (same_upd hp) ⟨o, upd_same, hT.tups (Tups.same (same_upd hp))⟩

section
variable {σ : L2.St} {H : Hp} {Q : VK} {R : Option Int → Hp → Prop}
theorem x_make1 {C : Addr} {sp : Sp} {dvs : List V} {E : XK} {t : TA} (h : t σ H fun vs H1 => ∀ x dx, H1 x = none → H1 dx = none → dx ≠ x → sp (.ref x :: (vs ++ dvs)) (upd (upd H1 dx (.own x)) x (.ins C dx [])) (fun v H2 => v = .non ∧ Q (.ref x) H2) E) : tMake C sp dvs E t σ H Q := h
theorem x_meth1 {C : Addr} {m : Str} {sp : Sp} {dvs : List V} {E : XK} {ta : TE} {t : TA} (h : ta σ H fun x H1 => ∃ a dx fs, x = .ref a ∧ H1 a = some (.ins C dx fs) ∧ fs.lookup m = none ∧ t σ H1 fun vs H2 => sp (x :: (vs ++ dvs)) H2 Q E) : tMeth C m sp dvs E ta t σ H Q := h
theorem x_lcPreL {te : TE} {ta : TE} {j : Nat} {vs : List Nat} (h : ta σ H fun v H1 => tLc (iList K (tC v)) (gName j) tYes te vs σ H1 Q) : tLc (iList K ta) (gName j) tYes te vs σ H Q := h
theorem x_revL {te : TE} (h : te σ H fun x H1 => ∃ a xs, x = .ref a ∧ SqL K H1 a xs ∧ ∀ p, H1 p = none → Q (.ref p) (upd H1 p (.lst xs.reverse))) : tRevL K te σ H Q := h
theorem x_sl {r : V → Option Int → Option Int → Hp → VK → Prop} {te : TE} {tl th : TO} (h : te σ H fun x H1 => tl σ H1 fun l H2 => th σ H2 fun u H3 => r x l u H3 Q) : tSl r te tl th σ H Q := h
theorem x_noPart (h : R none H) : tNoPart σ H R := h
theorem cut_take {xs : List V} {n : Nat} : cutV xs none (some (n : Int)) = xs.take n := by
  unfold cutV
  rw [HT.sIx_nat]
  show (xs.drop 0).take (min n xs.length - 0) = xs.take n
  rw [List.drop_zero, Nat.sub_zero]
  by_cases h : n ≤ xs.length
  · rw [Nat.min_eq_left h]
  · rw [Nat.min_eq_right (by omega), List.take_length, List.take_of_length_le (by omega)]
end
theorem new_prog {C : Addr} {H1 : Hp} {L0 : Addr} {as : List Addr} {ss : List Stp} {m c i : Nat} {Q : VK} {E : XK} (hC : PC K C) (hl : H1 L0 = some (.lst (as.map V.ref))) (hst : StpsAt H1 as ss) (ok : PrOk ss m c i)
    (q : ∀ p L' H', H1 L' = none → Same H1 H' → PrAt K C H' p L' as ss m c i → Q (.ref p) H') : ∀ x dx, H1 x = none → H1 dx = none → dx ≠ x → sp_Program___init K [.ref x, .int (m : Int), .int (c : Int), .int (i : Int), .ref L0] (upd (upd H1 dx (.own x)) x (.ins C dx [])) (fun v H2 => v = .non ∧ Q (.ref x) H2) E := by
  intro x dx hx hdx hne
  have s1 : ∀ b o, H1 b = some o → (upd (upd H1 dx (.own x)) x (.ins C dx [])) b = some o := fun b o e => by
    rw [upd_ne (ne_of_none e hx), upd_ne (ne_of_none e hdx)]
    exact e
  refine ⟨x, C, dx, L0, as, ss, m, c, i, rfl, upd_same, hC, s1 _ _ hl, hst.tups (fun b xs e => s1 _ _ e), ok, fun L' H' hL' keep hP => ⟨rfl, ?_⟩⟩
  have s2 : Same H1 H' := fun b o e => keep b o (s1 _ _ e) (ne_of_none e hx)
  refine q x L' H' ?_ s2 hP
  cases e : H1 L' with
  | none => rfl
  | some o =>
    rw [s1 _ _ e] at hL'
    cases hL'





end
end Br
namespace Br
open PySem PySem.Spec PyProof.Rows L2
local macro_rules | `(tactic| walk_at "x1") => `(tactic| (with_reducible first
  | refine Br.x_seq ?_ | refine Br.x_set ?_ | refine Br.x_asg ?_ | refine Br.x_next ?_ | refine Br.x_ret ?_ | refine Br.x_retN ?_ | refine Br.x_drop ?_ | refine Br.x_if ?_ | refine Br.x_brk ?_ | refine Br.x_cont ?_
  | refine Br.x_c ?_ | refine Br.x_op ?_ | refine Br.x_un ?_ | refine Br.x_I0 ?_ | refine Br.x_U ?_ | refine Br.x_EqI ?_ | refine Br.x_NeI ?_ | refine Br.x_EqB ?_ | refine Br.x_iN ?_ | refine Br.x_int1 ?_ | refine Br.x_min2 ?_ | refine Br.x_max2 ?_ | refine Br.x_nN ?_ | refine Br.x_ifE ?_
  | refine Br.x_test (b := ()) ?_ | refine Br.x_tB ?_ | refine Br.x_bl ?_ | refine Br.x_and ?_ | refine Br.x_or ?_ | refine Br.x_not ?_ | refine Br.x_andV ?_ | refine Br.x_orV ?_ | refine Br.x_notV ?_ | refine Br.x_blP ?_
  | refine Br.x_nil ?_ | refine Br.x_cons ?_ | refine Br.x_call ?_ | refine Br.x_CB ?_ | refine Br.x_BM ?_ | refine Br.x_tup ?_ | refine Br.x_lst ?_ | refine Br.x_chain ?_ | refine Br.x_par ?_ | refine Br.x_gSub ?_ | refine Br.x_gName ?_ | refine Br.x_fld ?_ | refine Br.x_fldS ?_ | refine Br.x_match ?_ | refine Br.x_else ?_ | refine Br.x_noCase ?_))
local macro_rules | `(tactic| walk_at "xv") => `(tactic| ((with_reducible refine' Br.x_var ?hvar ?_); (case hvar => rfl)))
local macro_rules | `(tactic| walk_at "xd") => `(tactic| (dsimp only [List.set_cons_zero, List.set_cons_succ, List.cons_append, List.nil_append, List.append_nil]))
local macro_rules | `(tactic| walk_at "xi") => `(tactic| ((with_reducible refine Br.x_I ?hside ?_); (case hside => first | exact Br.mul_r (by decide) (by decide) | exact Br.mul_l (by decide) (by decide) | exact Br.mul_l (by omega) (by omega) | exact Br.mul_r (by omega) (by omega) | (show (0 : Int) < _; first | decide | omega) | exact ⟨by decide, by decide⟩ | exact ⟨by omega, by omega⟩ | exact ⟨by decide, by decide, by decide⟩)))
local macro_rules | `(tactic| walk_at "x") => `(tactic| (repeat (first | walk_at "x1" | walk_at "xv" | walk_at "xi" | walk_at "xd")))
local macro_rules | `(tactic| walk_at "start") => `(tactic| (simp only [L2.start, List.map_cons, List.map_nil, List.length_cons, List.length_nil, Nat.reduceAdd, Nat.reduceSub, List.replicate, List.cons_append, List.nil_append, List.append_nil]))
local macro_rules | `(tactic| walk_at "isi") => `(tactic| first
  | refine Br.x_isi (b := true) (.base (.int _)) (by decide +kernel) ?_ | refine Br.x_isi (b := false) (.base (.int _)) (by decide +kernel) ?_
  | refine Br.x_isi (b := true) (.base (.bl _)) (by decide +kernel) ?_ | refine Br.x_isi (b := false) (.base (.bl _)) (by decide +kernel) ?_
  | refine Br.x_isi (b := false) (.base .non) (by decide +kernel) ?_
  | refine Br.x_isi (b := true) (.base (.str _)) (by decide +kernel) ?_ | refine Br.x_isi (b := false) (.base (.str _)) (by decide +kernel) ?_
  | refine Br.x_isi (b := true) (.base (.tup (by assumption))) (by decide +kernel) ?_ | refine Br.x_isi (b := false) (.base (.tup (by assumption))) (by decide +kernel) ?_
  | refine Br.x_isi (b := true) (.base (.lst (by assumption))) (by decide +kernel) ?_ | refine Br.x_isi (b := false) (.base (.lst (by assumption))) (by decide +kernel) ?_)
local macro_rules | `(tactic| walk_at "f") => `(tactic| (refine L2.iteF ?_; walk_at "x"))
local macro_rules | `(tactic| walk_at "t") => `(tactic| (refine L2.iteT ?_; walk_at "x"))
local macro_rules | `(tactic| walk_at "is") => `(tactic| (walk_at "isi"; walk_at "x"))
local macro_rules | `(tactic| walk_at "xb") => `(tactic| (simp only [Br.bindS, List.set_cons_zero, List.set_cons_succ]; walk_at "x"))

section
variable {P : Program} {w : World} {K : PySem.W.Frag} {mg : Str → Option Value} {base : Heap}

open Br.F
/-! ### the vault -/
def getM (mem : List Int) (pl : List Nat) : List Int := pl.map fun i => mem.getD i 0
def putM : List Int → List Nat → List Int → List Int
  | mem, p :: ps, z :: zs => putM (mem.set p z) ps zs
  | mem, _, _ => mem
theorem putM_snoc : ∀ {pl : List Nat} {vs mem : List Int} {k p : Nat} {z : Int}, pl[k]? = some p → vs[k]? = some z → putM mem (pl.take (k + 1)) (vs.take (k + 1)) = (putM mem (pl.take k) (vs.take k)).set p z
  | [], _, _, _, _, _, h, _ => by simp at h
  | _ :: _, [], _, _, _, _, _, h => by simp at h
  | q :: pl, y :: vs, mem, 0, p, z, h1, h2 => by
    cases h1; cases h2
    show putM (mem.set q y) (pl.take 0) (vs.take 0) = mem.set q y
    rfl
  | q :: pl, y :: vs, mem, k + 1, p, z, h1, h2 => putM_snoc (pl := pl) (vs := vs) (mem := mem.set q y) (k := k) h1 h2
theorem putM_len : ∀ {pl : List Nat} {vs mem : List Int}, (putM mem pl vs).length = mem.length
  | [], _, _ => by unfold putM; rfl
  | _ :: _, [], _ => by unfold putM; rfl
  | p :: pl, z :: vs, mem => by
    show (putM (mem.set p z) pl vs).length = _
    rw [putM_len, List.length_set]
theorem putM_mem {m n : Nat} : ∀ {pl : List Nat} {vs mem : List Int}, Mem m n mem → Rg 0 m vs → Mem m n (putM mem pl vs)
  | [], _, _, h, _ => by unfold putM; exact h
  | _ :: _, [], _, h, _ => by unfold putM; exact h
  | p :: pl, z :: vs, mem, h, hv => putM_mem (pl := pl) (vs := vs) (mem := mem.set p z) (h.set (hv z List.mem_cons_self).1 (hv z List.mem_cons_self).2) fun y hy => hv y (List.mem_cons_of_mem _ hy)
theorem getM_mem {m n : Nat} {pl : List Nat} {mem : List Int} (h : Mem m n mem) (hp : ∀ p, p ∈ pl → p < n) : Mem m pl.length (getM mem pl) := by
  refine ⟨by unfold getM; rw [List.length_map], fun z hz => ?_⟩
  obtain ⟨p, hp1, rfl⟩ := List.mem_map.mp hz
  obtain ⟨z, _, e, z0, z1⟩ := h.get (hp p hp1)
  rw [e]
  exact ⟨z0, z1⟩
/-- a loan -/
structure Ln where
  ss : List Stp
  c : Nat
  i : Nat
  pl : List Nat
  gv : List Int
  first : Int
  done : Nat
structure LnOk (m n : Nat) (x : Ln) : Prop where
  pr : PrOk x.ss m x.c x.i
  len : x.pl.length = x.c
  nd : x.pl.Nodup
  lt : ∀ p, p ∈ x.pl → p < n
  gv : Mem m x.i x.gv
  dn : x.done ≤ x.ss.length
structure VC (K : PySem.W.Frag) (C : Addr) : Prop where
  cl : Cls K C
  m : NoAttr K C "_memory"
  o : NoAttr K C "_modulus"
  l : NoAttr K C "_loans"
  t : NoAttr K C "_next_ticket"
structure LC (K : PySem.W.Frag) (C : Addr) : Prop where
  cl : Cls K C
  s : NoAttr K C "steps"
  p : NoAttr K C "places"
  g : NoAttr K C "given"
  f : NoAttr K C "first"
  d : NoAttr K C "done"
def vaF (M : Addr) (m : Int) (D : Addr) (nt : Int) : List (Str × V) := [("_memory", V.ref M), ("_modulus", V.int m), ("_loans", V.ref D), ("_next_ticket", V.int nt)]
theorem vaF_m {M D : Addr} {m nt : Int} : (vaF M m D nt).lookup ("_memory" : Str) = some (V.ref M) := rfl
theorem vaF_o {M D : Addr} {m nt : Int} : (vaF M m D nt).lookup ("_modulus" : Str) = some (V.int m) := rfl
theorem vaF_l {M D : Addr} {m nt : Int} : (vaF M m D nt).lookup ("_loans" : Str) = some (V.ref D) := rfl
theorem vaF_t {M D : Addr} {m nt : Int} : (vaF M m D nt).lookup ("_next_ticket" : Str) = some (V.int nt) := rfl
theorem vaF_mk {M D : Addr} {m nt : Int} : putF "_next_ticket" (V.int nt) (putF "_loans" (V.ref D) (putF "_modulus" (V.int m) (putF "_memory" (V.ref M) []))) = vaF M m D nt := rfl
theorem vaF_put {M D : Addr} {m nt nt' : Int} : putF "_next_ticket" (V.int nt') (vaF M m D nt) = vaF M m D nt' := rfl
def lnF (S P G : Addr) (f d : Int) : List (Str × V) := [("steps", V.ref S), ("places", V.ref P), ("given", V.ref G), ("first", V.int f), ("done", V.int d)]
theorem lnF_s {S P G : Addr} {f d : Int} : (lnF S P G f d).lookup ("steps" : Str) = some (V.ref S) := rfl
theorem lnF_p {S P G : Addr} {f d : Int} : (lnF S P G f d).lookup ("places" : Str) = some (V.ref P) := rfl
theorem lnF_g {S P G : Addr} {f d : Int} : (lnF S P G f d).lookup ("given" : Str) = some (V.ref G) := rfl
theorem lnF_f {S P G : Addr} {f d : Int} : (lnF S P G f d).lookup ("first" : Str) = some (V.int f) := rfl
theorem lnF_d {S P G : Addr} {f d : Int} : (lnF S P G f d).lookup ("done" : Str) = some (V.int d) := rfl
theorem lnF_mk {S P G : Addr} {f d : Int} : putF "done" (V.int d) (putF "first" (V.int f) (putF "given" (V.ref G) (putF "places" (V.ref P) (putF "steps" (V.ref S) [])))) = lnF S P G f d := rfl
theorem lnF_put {S P G : Addr} {f d d' : Int} : putF "done" (V.int d') (lnF S P G f d) = lnF S P G f d' := rfl
/-- all but these is as it was -/
def KeepS (S : Addr → Prop) (H H' : Hp) : Prop := ∀ b o, H b = some o → ¬ S b → H' b = some o
theorem KeepS.trans {S : Addr → Prop} {H H1 H2 : Hp} (a : KeepS S H H1) (b : KeepS S H1 H2) : KeepS S H H2 := fun c o h n => b c o (a c o h n) n
theorem KeepS.mono {S T : Addr → Prop} {H H' : Hp} (a : KeepS S H H') (h : ∀ b, S b → T b) : KeepS T H H' := fun c o e n => a c o e fun s => n (h c s)
theorem KeepS.same {S : Addr → Prop} {H H' : Hp} (a : Same H H') : KeepS S H H' := fun c o h _ => a c o h
/-- a loan at a: its lists are apart from the memory's list -/
structure LnAt (K : PySem.W.Frag) (CL : Addr) (AV : Addr → Prop) (H : Hp) (a : Addr) (x : Ln) : Prop where
  at_ : ∃ (dx S P G : Addr) (as : List Addr), H a = some (.ins CL dx (lnF S P G x.first x.done)) ∧ LC K CL ∧ H S = some (.lst (as.map V.ref)) ∧ StpsAt H as x.ss ∧ H P = some (.lst (cInts x.pl)) ∧ H G = some (.lst (x.gv.map V.int)) ∧ ¬ AV S ∧ ¬ AV P ∧ ¬ AV G
theorem LnAt.keep {K : PySem.W.Frag} {CL : Addr} {AV : Addr → Prop} {H H' : Hp} {a : Addr} {x : Ln} {T : Addr → Prop} (h : LnAt K CL AV H a x) (k : KeepS T H H') (ht : ∀ b, T b → b ≠ a ∧ (AV b ∨ ∀ xs, H b ≠ some (.lst xs)) ∧ ∀ xs, H b ≠ some (.tup xs)) : LnAt K CL AV H' a x := by
  obtain ⟨dx, S, P, G, as, h1, hc, h2, h3, h4, h5, n1, n2, n3⟩ := h.at_
  have lst : ∀ b xs, H b = some (.lst xs) → ¬ AV b → H' b = some (.lst xs) := fun b xs e n => k b _ e fun t => by
    rcases (ht b t).2.1 with q | q
    · exact n q
    · exact q xs e
  exact ⟨dx, S, P, G, as, k _ _ h1 fun t => (ht a t).1 rfl, hc, lst S _ h2 n1, h3.tups fun b xs e => k b _ e fun t => (ht b t).2.2 xs e, lst P _ h4 n2, lst G _ h5 n3, n1, n2, n3⟩
/-- more to be avoided: what is new -/
theorem LnAt.grow {K : PySem.W.Frag} {CL : Addr} {AV AW : Addr → Prop} {H : Hp} {a : Addr} {x : Ln} (h : LnAt K CL AV H a x) (hw : ∀ b, AW b → AV b ∨ H b = none) : LnAt K CL AW H a x := by
  obtain ⟨dx, S, P, G, as, h1, hc, h2, h3, h4, h5, n1, n2, n3⟩ := h.at_
  have f : ∀ b xs, H b = some (.lst xs) → ¬ AV b → ¬ AW b := fun b xs e n w => (hw b w).elim n fun z => by rw [z] at e; cases e
  exact ⟨dx, S, P, G, as, h1, hc, h2, h3, h4, h5, f S _ h2 n1, f P _ h4 n2, f G _ h5 n3⟩
abbrev Lns := List (Nat × Addr × Ln)
def dctOf (ls : Lns) : List (Key × V) := ls.map fun x => (Sum.inl (x.1 : Int), V.ref x.2.1)
structure VaAt (K : PySem.W.Frag) (CV CL : Addr) (AV : Addr → Prop) (H : Hp) (v M D : Addr) (m nt : Nat) (mem : List Int) (ls : Lns) : Prop where
  ob : ∃ dx, H v = some (.ins CV dx (vaF M m D nt))
  vc : VC K CV
  mm : H M = some (.lst (mem.map V.int))
  dd : H D = some (.dK (dctOf ls))
  av : AV M
  ln : ∀ x, x ∈ ls → LnAt K CL AV H x.2.1 x.2.2
  inj : (ls.map fun x => x.2.1).Nodup
  nv : ∀ x, x ∈ ls → x.2.1 ≠ v
  asc : (ls.map fun x => x.1).Pairwise (· < ·)
  lt : ∀ x, x ∈ ls → x.1 < nt
  mok : Mem m mem.length mem
  ok : ∀ x, x ∈ ls → LnOk m mem.length x.2.2
  m2 : 2 ≤ m
  m9 : m ≤ 1000000000
  n1 : 1 ≤ mem.length
  n2 : mem.length ≤ 200
/-- what the vault's calls may change -/
def FpV (v M D : Addr) (ls : Lns) : Addr → Prop := fun b => b = v ∨ b = M ∨ b = D ∨ ∃ x, x ∈ ls ∧ b = x.2.1
theorem VaAt.same {K : PySem.W.Frag} {CV CL : Addr} {AV : Addr → Prop} {H H' : Hp} {v M D : Addr} {m nt : Nat} {mem : List Int} {ls : Lns} (h : VaAt K CV CL AV H v M D m nt mem ls) (s : Same H H') : VaAt K CV CL AV H' v M D m nt mem ls := by
  obtain ⟨dx, h1⟩ := h.ob
  exact ⟨⟨dx, s _ _ h1⟩, h.vc, s _ _ h.mm, s _ _ h.dd, h.av, fun x hx => (h.ln x hx).keep (T := fun _ => False) (KeepS.same s) fun b hb => hb.elim, h.inj, h.nv, h.asc, h.lt, h.mok, h.ok, h.m2, h.m9, h.n1, h.n2⟩
/-- changes elsewhere -/
theorem VaAt.keep {K : PySem.W.Frag} {CV CL : Addr} {AV : Addr → Prop} {H H' : Hp} {v M D : Addr} {m nt : Nat} {mem : List Int} {ls : Lns} {T : Addr → Prop} (h : VaAt K CV CL AV H v M D m nt mem ls) (k : KeepS T H H') (hv : ¬ T v) (hM : ¬ T M) (hD : ¬ T D) (hl : ∀ x, x ∈ ls → LnAt K CL AV H' x.2.1 x.2.2) : VaAt K CV CL AV H' v M D m nt mem ls := by
  obtain ⟨dx, h1⟩ := h.ob
  exact ⟨⟨dx, k _ _ h1 hv⟩, h.vc, k _ _ h.mm hM, k _ _ h.dd hD, h.av, hl, h.inj, h.nv, h.asc, h.lt, h.mok, h.ok, h.m2, h.m9, h.n1, h.n2⟩
theorem fp_alloc {K : PySem.W.Frag} {CV CL : Addr} {AV : Addr → Prop} {H : Hp} {v M D : Addr} {m nt : Nat} {mem : List Int} {ls : Lns} (h : VaAt K CV CL AV H v M D m nt mem ls) {b : Addr} (hb : FpV v M D ls b) : H b ≠ none := by
  rcases hb with rfl | rfl | rfl | ⟨x, hx, rfl⟩
  · obtain ⟨dx, h1⟩ := h.ob; rw [h1]; exact fun z => nomatch z
  · rw [h.mm]; exact fun z => nomatch z
  · rw [h.dd]; exact fun z => nomatch z
  · obtain ⟨dx, S, P, G, as, h1, _⟩ := (h.ln x hx).at_
    rw [h1]; exact fun z => nomatch z
def shareF (x y : Ln) : Bool := x.pl.any fun p => decide (p ∈ y.pl)
theorem shareF_iff {x y : Ln} : shareF x y = true ↔ ∃ p, p ∈ x.pl ∧ p ∈ y.pl := by
  unfold shareF
  rw [List.any_eq_true]
  exact ⟨fun ⟨p, h1, h2⟩ => ⟨p, h1, of_decide_eq_true h2⟩, fun ⟨p, h1, h2⟩ => ⟨p, h1, decide_eq_true h2⟩⟩
theorem cInts_map {cs : List Nat} : cInts cs = (cs.map fun (c : Nat) => (c : Int)).map V.int := by
  unfold cInts
  rw [List.map_map]
  rfl
theorem x_lenAnd {K : PySem.W.Frag} {σ : L2.St} {H : Hp} {Q : VK} {ta tb : TE} (h : ta σ H fun x H1 => ∃ (l : Addr) (ns : List Int), x = V.ref l ∧ SqL K H1 l (ns.map V.int) ∧ ns.length ≤ 1000 ∧ ∀ (p : Addr) (o : HO), H1 p = none → tb σ (L2.upd H1 p o) fun y H2 =>
  H2 p = some o ∧ ∃ (m : Addr) (ms : List Int), y = V.ref m ∧ SqL K H2 m (ms.map V.int) ∧ ms.length ≤ 1000 ∧ ∀ c : Nat, (0 < c ↔ ∃ k, k ∈ ns ∧ k ∈ ms) → Q (.int (c : Nat)) H2) : tLenAnd K ta tb σ H Q := h

def sp_share_cells (K : PySem.W.Frag) : Sp := fun vs H Q _ => ∃ (a b CL : Addr) (AV AW : Addr → Prop) (x y : Ln), vs = [.ref a, .ref b] ∧ LnAt K CL AV H a x ∧ LnAt K CL AW H b y ∧ x.pl.length ≤ 1000 ∧ y.pl.length ≤ 1000 ∧ ∀ H', Same H H' → Q (.bl (shareF x y)) H'
theorem ok_share_cells (T : Txt K mg) : FnOk P w K mg base CX0 1 T.a_share_cells T.fd_share_cells ["loan", "other"] (sp_share_cells K) := by
  refine T.F_share_cells.ok sc_share_cells (fun vs H Q E h => ?_) (fun cdv A outer s H vs Q E hr h => ?_)
  · obtain ⟨a, b, CL, AV, AW, x, y, rfl, _⟩ := h
    rfl
  · obtain ⟨a, b, CL, AV, AW, x, y, rfl, hx, hy, hx9, hy9, q⟩ := h
    obtain ⟨dx, S, P, G, as, h1, hc, h2, h3, h4, h5, n1, n2, n3⟩ := hx.at_
    obtain ⟨dy, S', P', G', as', g1, gc, g2, g3, g4, g5, _⟩ := hy.at_
    refine ⟨_, (pss_one (ps_ret (pe_cmpR op_gt (pe_lenAnd (by rfl) T.m_len (by rfl) T.m_set (pe_fld (pv 0) rfl) (pe_fld (pv 1) rfl)) pe_int (nomark _)))), ?_⟩
    walk_at "start"
    walk_at "x"
    refine x_lenAnd ?_
    walk_at "x"
    refine x_fldR h1 hc.cl hc.p lnF_p ?_
    refine ⟨P, x.pl.map fun (c : Nat) => (c : Int), rfl, sq_of (by rw [← cInts_map]; exact h4), by rw [List.length_map]; exact hx9, fun p o hp => ?_⟩
    have u := same_upd (o := o) hp
    have e : (upd H p o) p = some o := upd_same
    generalize upd H p o = H1 at u e
    walk_at "x"
    refine x_fldR (u _ _ g1) gc.cl gc.p lnF_p ?_
    refine ⟨e, P', y.pl.map fun (c : Nat) => (c : Int), rfl, sq_of (by rw [← cInts_map]; exact u _ _ g4), by rw [List.length_map]; exact hy9, fun c hcc => ?_⟩
    walk_at "x"
    have hsh : decide ((c : Int) > 0) = shareF x y := by
      rw [Bool.eq_iff_iff, decide_eq_true_iff, shareF_iff]
      constructor
      · intro h
        obtain ⟨k, k1, k2⟩ := hcc.mp (by omega)
        obtain ⟨p1, hp1, rfl⟩ := List.mem_map.mp k1
        obtain ⟨p2, hp2, e2⟩ := List.mem_map.mp k2
        have e2 : (p2 : Int) = (p1 : Int) := e2
        obtain rfl : p2 = p1 := by omega
        exact ⟨p2, hp1, hp2⟩
      · rintro ⟨p1, hp1, hp2⟩
        have := hcc.mpr ⟨(p1 : Int), List.mem_map.mpr ⟨p1, hp1, rfl⟩, List.mem_map.mpr ⟨p1, hp2, rfl⟩⟩
        omega
    rw [hsh]
    exact q H1 u


end
end Br
namespace Br
open PySem PySem.Spec PyProof.Rows L2
local macro_rules | `(tactic| walk_at "x1") => `(tactic| (with_reducible first
  | refine Br.x_seq ?_ | refine Br.x_set ?_ | refine Br.x_asg ?_ | refine Br.x_next ?_ | refine Br.x_ret ?_ | refine Br.x_retN ?_ | refine Br.x_drop ?_ | refine Br.x_if ?_ | refine Br.x_brk ?_ | refine Br.x_cont ?_
  | refine Br.x_c ?_ | refine Br.x_op ?_ | refine Br.x_un ?_ | refine Br.x_I0 ?_ | refine Br.x_U ?_ | refine Br.x_EqI ?_ | refine Br.x_NeI ?_ | refine Br.x_EqB ?_ | refine Br.x_iN ?_ | refine Br.x_int1 ?_ | refine Br.x_min2 ?_ | refine Br.x_max2 ?_ | refine Br.x_nN ?_ | refine Br.x_ifE ?_
  | refine Br.x_test (b := ()) ?_ | refine Br.x_tB ?_ | refine Br.x_bl ?_ | refine Br.x_and ?_ | refine Br.x_or ?_ | refine Br.x_not ?_ | refine Br.x_andV ?_ | refine Br.x_orV ?_ | refine Br.x_notV ?_ | refine Br.x_blP ?_
  | refine Br.x_nil ?_ | refine Br.x_cons ?_ | refine Br.x_call ?_ | refine Br.x_CB ?_ | refine Br.x_BM ?_ | refine Br.x_tup ?_ | refine Br.x_lst ?_ | refine Br.x_chain ?_ | refine Br.x_par ?_ | refine Br.x_gSub ?_ | refine Br.x_gName ?_ | refine Br.x_fld ?_ | refine Br.x_fldS ?_ | refine Br.x_match ?_ | refine Br.x_else ?_ | refine Br.x_noCase ?_))
local macro_rules | `(tactic| walk_at "xv") => `(tactic| ((with_reducible refine' Br.x_var ?hvar ?_); (case hvar => rfl)))
local macro_rules | `(tactic| walk_at "xd") => `(tactic| (dsimp only [List.set_cons_zero, List.set_cons_succ, List.cons_append, List.nil_append, List.append_nil]))
local macro_rules | `(tactic| walk_at "xi") => `(tactic| ((with_reducible refine Br.x_I ?hside ?_); (case hside => first | exact Br.mul_r (by decide) (by decide) | exact Br.mul_l (by decide) (by decide) | exact Br.mul_l (by omega) (by omega) | exact Br.mul_r (by omega) (by omega) | (show (0 : Int) < _; first | decide | omega) | exact ⟨by decide, by decide⟩ | exact ⟨by omega, by omega⟩ | exact ⟨by decide, by decide, by decide⟩)))
local macro_rules | `(tactic| walk_at "x") => `(tactic| (repeat (first | walk_at "x1" | walk_at "xv" | walk_at "xi" | walk_at "xd")))
local macro_rules | `(tactic| walk_at "start") => `(tactic| (simp only [L2.start, List.map_cons, List.map_nil, List.length_cons, List.length_nil, Nat.reduceAdd, Nat.reduceSub, List.replicate, List.cons_append, List.nil_append, List.append_nil]))
local macro_rules | `(tactic| walk_at "isi") => `(tactic| first
  | refine Br.x_isi (b := true) (.base (.int _)) (by decide +kernel) ?_ | refine Br.x_isi (b := false) (.base (.int _)) (by decide +kernel) ?_
  | refine Br.x_isi (b := true) (.base (.bl _)) (by decide +kernel) ?_ | refine Br.x_isi (b := false) (.base (.bl _)) (by decide +kernel) ?_
  | refine Br.x_isi (b := false) (.base .non) (by decide +kernel) ?_
  | refine Br.x_isi (b := true) (.base (.str _)) (by decide +kernel) ?_ | refine Br.x_isi (b := false) (.base (.str _)) (by decide +kernel) ?_
  | refine Br.x_isi (b := true) (.base (.tup (by assumption))) (by decide +kernel) ?_ | refine Br.x_isi (b := false) (.base (.tup (by assumption))) (by decide +kernel) ?_
  | refine Br.x_isi (b := true) (.base (.lst (by assumption))) (by decide +kernel) ?_ | refine Br.x_isi (b := false) (.base (.lst (by assumption))) (by decide +kernel) ?_)
local macro_rules | `(tactic| walk_at "f") => `(tactic| (refine L2.iteF ?_; walk_at "x"))
local macro_rules | `(tactic| walk_at "t") => `(tactic| (refine L2.iteT ?_; walk_at "x"))
local macro_rules | `(tactic| walk_at "is") => `(tactic| (walk_at "isi"; walk_at "x"))
local macro_rules | `(tactic| walk_at "xb") => `(tactic| (simp only [Br.bindS, List.set_cons_zero, List.set_cons_succ]; walk_at "x"))

section
variable {P : Program} {w : World} {K : PySem.W.Frag} {mg : Str → Option Value} {base : Heap}

open Br.F
/-- the open loan of a ticket -/
def openAt (ls : Lns) : V → Option (Nat × Addr × Ln)
  | .int i => ls.find? fun x => decide ((x.1 : Int) = i)
  | _ => none
def blockedF (ls : Lns) (x : Nat × Addr × Ln) : Bool := ls.any fun y => decide (x.1 < y.1) && shareF x.2.2 y.2.2
theorem valV_dct (i : Int) : ∀ ls : Lns, valV (dctOf ls) (Sum.inl i) = (ls.find? fun x => decide ((x.1 : Int) = i)).map fun x => V.ref x.2.1
  | [] => rfl
  | x :: ls => by
    by_cases h : (x.1 : Int) = i
    · show valV ((Sum.inl (x.1 : Int), V.ref x.2.1) :: dctOf ls) (Sum.inl i) = _
      rw [valV_pos (by rw [h]), List.find?_cons, decide_eq_true h]
      rfl
    · show valV ((Sum.inl (x.1 : Int), V.ref x.2.1) :: dctOf ls) (Sum.inl i) = _
      rw [valV_neg (fun e => h (Sum.inl.inj e)), valV_dct i ls, List.find?_cons, decide_eq_false h]
theorem openAt_mem {ls : Lns} {t : V} {x : Nat × Addr × Ln} (h : openAt ls t = some x) : x ∈ ls ∧ t = .int (x.1 : Int) := by
  cases t with
  | int i =>
    have h : (ls.find? fun x => decide ((x.1 : Int) = i)) = some x := h
    exact ⟨List.mem_of_find?_eq_some h, by have := List.find?_some h; rw [← of_decide_eq_true this]⟩
  | _ => cases h
/-- a call with a ticket: none, blocked, or free -/
def TkAsk (BT BZ : Addr) (ls : Lns) (t : V) (H : Hp) (E : XK) (ok : Nat × Addr × Ln → Prop) : Prop :=
  (openAt ls t = none → ∀ H', Same H H' → E (.ref BT) none H') ∧ (∀ x, openAt ls t = some x → blockedF ls x = true → ∀ H', Same H H' → E (.ref BZ) none H') ∧ (∀ x, openAt ls t = some x → blockedF ls x = false → ok x)
theorem walk_keysA {d : Addr} {o : Obj} {kvs : List (Key × V)} : Walk (Itk d o kvs) (kvs.map fun kv => kV kv.1).length (fun H => H d = some (.frz o (.dK kvs))) (YAt (kvs.map fun kv => kV kv.1)) := by
  refine ⟨fun i H hi g => ⟨g, by rw [List.length_map] at hi; exact hi⟩, fun H g => ⟨g, by rw [List.length_map]; exact Nat.le_refl _⟩, fun i H x H' hi g y => ?_⟩
  obtain ⟨e, k, v, h1, h2⟩ := y
  exact ⟨e, by rw [List.getElem?_map, h1, h2]; rfl⟩
section
variable {σ : L2.St} {H : Hp} {Q : VK}
theorem x_dnotin {ty td : TE} (h : ty σ H fun y H1 => td σ H1 fun x H2 => ∃ a o, x = .ref a ∧ DGet H2 a y o ∧ Q (.bl (!o.isSome)) H2) : tDNotIn ty td σ H Q := h
theorem x_dgetE {ty td : TE} (h : td σ H fun x H1 => ty σ H1 fun y H2 => ∃ a v, x = .ref a ∧ DGet H2 a y (some v) ∧ Q v H2) : tDGet td ty σ H Q := h
theorem x_lockE {t : TE} {d : Addr} {u : HO} (hd : H d = some u) (mu : Mut (some u)) (h : ∀ od, t σ (upd H d (.frz od u)) fun v H' => H' d = some (.frz od u) ∧ Q v (upd H' d u)) : tLockE t σ H Q := ⟨d, u, hd, mu, h⟩
theorem x_keys {td : TE} {R : It → Hp → Prop} (h : td σ H fun x H1 => ∃ d o, x = .ref d ∧ ((∃ kvs, H1 d = some (.frz o (.dK kvs)) ∧ R (Itk d o kvs) H1) ∨ ∃ kvs, H1 d = some (.frz o (.dT kvs)) ∧ R (Itkt d o kvs) H1)) : iKeys td σ H R := h
end
theorem isB_some {t : V} {b : Int} (h : isB t b = true) : ∃ i : Int, t = .int i ∧ 0 ≤ i ∧ i < b := by
  cases t with
  | int i =>
    have h : (decide (0 ≤ i) && decide (i < b)) = true := h
    rw [Bool.and_eq_true, decide_eq_true_iff, decide_eq_true_iff] at h
    exact ⟨i, rfl, h.1, h.2⟩
  | _ => cases h
theorem openAt_none {ls : Lns} {t : V} {nt : Nat} (hlt : ∀ x, x ∈ ls → x.1 < nt) (h : isB t (nt : Int) = false) : openAt ls t = none := by
  cases ho : openAt ls t with
  | none => rfl
  | some x =>
    exfalso
    obtain ⟨hx, ht⟩ := openAt_mem ho
    have := hlt x hx
    have h2 : isB (.int (x.1 : Int)) (nt : Int) = true := isB_int (by omega) (by omega)
    rw [ht, h2] at h
    exact absurd h (by decide)
theorem range_map_get {α : Type} {ls : List α} {f : Nat → Bool} {g : α → Bool} (h : ∀ (i : Nat) x, ls[i]? = some x → f i = g x) : ((List.range ls.length).map f).any id = ls.any g := by
  rw [Bool.eq_iff_iff, List.any_eq_true, List.any_eq_true]
  constructor
  · rintro ⟨b, hb, rfl⟩
    obtain ⟨i, hi, e⟩ := List.mem_map.mp hb
    have hi := List.mem_range.mp hi
    have e2 := h i _ (List.getElem?_eq_getElem hi)
    refine ⟨ls[i], List.getElem_mem hi, ?_⟩
    exact e2.symm.trans e
  · rintro ⟨x, hx, hg⟩
    obtain ⟨i, hi⟩ := List.mem_iff_getElem?.mp hx
    have hl := (List.getElem?_eq_some_iff.mp hi).1
    exact ⟨f i, List.mem_map.mpr ⟨i, List.mem_range.mpr hl, rfl⟩, by rw [h i x hi]; exact hg⟩
theorem Same.unlock {H H' : Hp} {d : Addr} {od : Obj} {u : HO} (hd : H d = some u) (s : Same (upd H d (.frz od u)) H') : H' d = some (.frz od u) ∧ Same H (upd H' d u) := by
  refine ⟨s _ _ upd_same, fun b o e => ?_⟩
  by_cases hb : b = d
  · rw [hb, upd_same, ← hd, ← e, hb]
  · rw [upd_ne hb]
    exact s _ _ (by rw [upd_ne hb]; exact e)
theorem find_uniq : ∀ {ls : Lns} {y : Nat × Addr × Ln}, (ls.map fun x => x.1).Pairwise (· < ·) → y ∈ ls → ls.find? (fun x => decide ((x.1 : Int) = (y.1 : Int))) = some y
  | x :: ls, y, h, hy => by
    rw [List.map_cons, List.pairwise_cons] at h
    rcases List.mem_cons.mp hy with rfl | hy
    · rw [List.find?_cons, decide_eq_true rfl]
    · have := h.1 y.1 (List.mem_map.mpr ⟨y, hy, rfl⟩)
      rw [List.find?_cons, decide_eq_false (by omega)]
      exact find_uniq h.2 hy

def sp_Vault__free_loan (BT BZ : Addr) (K : PySem.W.Frag) : Sp := fun vs H Q E => ∃ (CV CL v M D : Addr) (AV : Addr → Prop) (m nt : Nat) (mem : List Int) (ls : Lns) (t : V), vs = [.ref v, t] ∧ VaAt K CV CL AV H v M D m nt mem ls ∧ Odd H t ∧ ls.length ≤ 1000 ∧
  TkAsk BT BZ ls t H E fun x => ∀ H', Same H H' → Q (.ref x.2.1) H'
theorem ok_Vault__free_loan (T : Txt K mg) : FnOk P w K mg base (L2.CX P w) 2 T.a_Vault__free_loan T.fd_Vault__free_loan ["self", "ticket"] (sp_Vault__free_loan T.E_BadTicket T.E_Busy K) := by
  refine T.F_Vault__free_loan.okX sc_Vault__free_loan (fun vs H Q E h => ?_) (fun cdv A outer s H vs Q E hr h => ?_)
  · obtain ⟨CV, CL, v, M, D, AV, m, nt, mem, ls, t, rfl, _⟩ := h
    rfl
  · obtain ⟨CV, CL, v, M, D, AV, m, nt, mem, ls, t, rfl, hV, ht, hl9, hT1, hT2, hT3⟩ := h
    obtain ⟨dx, h1⟩ := hV.ob
    have vc := hV.vc
    refine ⟨_, (pss_cons (ps_if (PW.pt (pw_or (pt_not (pt_val (pe_call (ok_is_below T) hr (by rfl) T.g_is_below T.F_is_below.kp T.b_is_below .nil pass0 (pa_cons (pv 1) (pa_cons (pe_fld (pv 0) rfl) pa_nil))))) (pw_or1 (pt_cmp (pc_dnotin (hu_of hr) (pv 1) (pe_fld (pv 0) rfl))))))
      (pss_one (ps_raise rfl (takes_of rfl rfl rfl rfl) (pmk_own PySem.F.excBase_ValueError T.xE_BadTicket T.gE_BadTicket T.kE_BadTicket (raises_own T.bE_BadTicket T.tE_BadTicket) (by exact rfl))))
      pss_nil)
      (pss_cons (ps_set (i := 2) sc_Vault__free_loan.nd rfl (.inr rfl) (pe_dget (hu_of hr) (pe_fld (pv 0) rfl) (pv 1) (fun _ _ => rfl)))
      (pss_cons (ps_if (pt_val (pe_callB (id := "any") (r := rAny K) (cr_any rfl) (by rfl) T.m_any (by decide +kernel) (pa_cons (pe_lock (pe_lc (own := [("other", 3)]) (g := gName 3) (tt := tYes) rfl sc_Vault__free_loan.nd (pi_keys (pe_fld (pv 0) rfl)) (blkOk_by (N := N_Vault__free_loan) (sc := defScope s_Vault__free_loan) (by decide +kernel)) (fun _ _ _ _ _ => (pg_name (i := 3) sc_Vault__free_loan.nd rfl (Or.inl rfl))) (fun _ _ _ _ _ => pts_nil) (fun _ _ _ _ _ => (pe_and (pe_cmpR op_gt (pv 3) (pv 1) (nomark _)) (pe_one (pe_call (ok_share_cells T) hr (by rfl) T.g_share_cells T.F_share_cells.kp T.b_share_cells .nil pass0 (pa_cons (pv 2) (pa_cons (pe_dget (hu_of hr) (pe_fldK (K2 := K) rfl (pv 0) (by rfl)) (pv 3) (fun _ _ => rfl)) pa_nil)))))))) pa_nil)))
      (pss_one (ps_raise rfl (takes_of rfl rfl rfl rfl) (pmk_own PySem.F.excBase_ValueError T.xE_Busy T.gE_Busy T.kE_Busy (raises_own T.bE_Busy T.tE_Busy) (by exact rfl))))
      pss_nil)
      (PSs.nox (pss_one (ps_ret (pv 2))))))), ?_⟩
    walk_at "start"
    walk_at "x"
    refine x_fldR h1 vc.cl vc.t vaF_t ?_
    walk_at "x"
    refine ⟨t, _, rfl, ht, ?_⟩
    walk_at "x"
    refine x_iteBN (fun hb => ?_) (fun hb => ?_)
    · walk_at "t"
      exact hT1 (openAt_none hV.lt hb) H (Same.refl _)
    obtain ⟨i, rfl, i0, i1⟩ := isB_some hb
    refine x_dnotin ?_
    walk_at "x"
    refine x_fldR h1 vc.cl vc.l vaF_l ?_
    refine ⟨D, _, rfl, DGet.k (k := Sum.inl i) hV.dd, ?_⟩
    walk_at "x"
    rw [valV_dct]
    cases hf : ls.find? (fun x => decide ((x.1 : Int) = i)) with
    | none =>
      walk_at "t"
      exact hT1 hf H (Same.refl _)
    | some x =>
      have ho : openAt ls (.int i) = some x := hf
      obtain ⟨hx, hxi⟩ := openAt_mem ho
      walk_at "f"
      refine x_dgetE ?_
      walk_at "x"
      refine x_fldR h1 vc.cl vc.l vaF_l ?_
      walk_at "x"
      refine ⟨D, V.ref x.2.1, rfl, ?_, ?_⟩
      · have := DGet.k (k := Sum.inl i) hV.dd
        rw [valV_dct, hf] at this
        exact this
      walk_at "x"
      refine x_lockE hV.dd trivial fun od => ?_
      have hVD : ∀ b, b ≠ D → (upd H D (.frz od (.dK (dctOf ls)))) b = H b := fun b hb => upd_ne hb
      have hvD : v ≠ D := ne_of h1 hV.dd (by intro z; cases z)
      have hD0 : (upd H D (.frz od (.dK (dctOf ls)))) D = some (.frz od (.dK (dctOf ls))) := upd_same
      have kD : KeepS (fun b => b = D) H (upd H D (.frz od (.dK (dctOf ls)))) := fun b o e hb => by rw [upd_ne hb]; exact e
      have lnD : ∀ y, y ∈ ls → LnAt K CL AV (upd H D (.frz od (.dK (dctOf ls)))) y.2.1 y.2.2 := fun y hy => (hV.ln y hy).keep kD fun b hb => by
        subst hb
        have hdd := hV.dd
        obtain ⟨_, _, _, _, _, g1, _⟩ := (hV.ln y hy).at_
        refine ⟨ne_of hdd g1 (by intro z; cases z), .inr (fun xs e => by rw [hdd] at e; cases e), (fun xs e => by rw [hdd] at e; cases e)⟩
      have hlk : ∀ {H' : Hp}, Same (upd H D (.frz od (.dK (dctOf ls)))) H' → H' D = some (.frz od (.dK (dctOf ls))) ∧ Same H (upd H' D (.dK (dctOf ls))) := fun s => Same.unlock hV.dd s
      have h1D : (upd H D (.frz od (.dK (dctOf ls)))) v = some (.ins CV dx (vaF M m D nt)) := by rw [upd_ne hvD]; exact h1
      generalize upd H D (.frz od (.dK (dctOf ls))) = HD at hD0 lnD hlk h1D
      refine x_lcB (xs := (dctOf ls).map fun kv => kV kv.1) (fun k => (ls[k]?.map fun y => decide (x.1 < y.1) && shareF x.2.2 y.2.2).getD false) (J := Itk D od (dctOf ls)) (G := fun H => H D = some (.frz od (.dK (dctOf ls)))) (fun R r => ?_) walk_keysA (by rw [List.length_map]; show (ls.map _).length ≤ 100000; rw [List.length_map]; omega) (fun H' s => s _ _ hD0) (fun x => rfl) ?_ ?_
      · refine x_keys ?_
        walk_at "x"
        exact x_fldR h1D vc.cl vc.l vaF_l ⟨D, od, rfl, .inl ⟨_, hD0, r⟩⟩
      · intro k z H' s hz R hR
        obtain ⟨y, hy, rfl⟩ : ∃ y, ls[k]? = some y ∧ z = .int (y.1 : Int) := by
          unfold dctOf at hz
          rw [List.map_map, List.getElem?_map] at hz
          cases hk : ls[k]? with
          | none => rw [hk] at hz; cases hz
          | some y => rw [hk] at hz; exact ⟨y, rfl, (Option.some.inj hz).symm⟩
        have hym := List.mem_of_getElem? hy
        rw [hy] at hR
        have hR : ∀ H2, Same H' H2 → R (.bl (decide (x.1 < y.1) && shareF x.2.2 y.2.2)) H2 := hR
        walk_at "x"
        have hi : i = (x.1 : Int) := V.int.inj hxi
        refine x_ite (fun hgt => ?_) (fun hgt => ?_)
        · rw [decide_eq_true (show x.1 < y.1 by omega)] at hR
          walk_at "x"
          refine x_dgetE ?_
          walk_at "x"
          refine x_fldR (s _ _ h1D) vc.cl vc.l vaF_l ?_
          walk_at "x"
          refine ⟨D, V.ref y.2.1, rfl, ?_, ?_⟩
          · refine .inl ⟨dctOf ls, Sum.inl (y.1 : Int), .inr ⟨od, s _ _ hD0⟩, rfl, ?_⟩
            rw [valV_dct]
            have : ls.find? (fun x => decide ((x.1 : Int) = (y.1 : Int))) = some y := find_uniq hV.asc hym
            rw [this]
            rfl
          walk_at "x"
          have a1 := (lnD x hx)
          have a2 := (lnD y hym)
          refine ⟨_, _, CL, AV, AV, x.2.2, y.2.2, rfl, a1.keep (T := fun _ => False) (KeepS.same s) fun b hb => hb.elim, a2.keep (T := fun _ => False) (KeepS.same s) fun b hb => hb.elim, ?_, ?_, fun H2 s2 => ?_⟩
          · have := (hV.ok x hx).len; have := (hV.ok x hx).pr.c60; omega
          · have := (hV.ok y hym).len; have := (hV.ok y hym).pr.c60; omega
          · exact hR H2 s2
        · rw [decide_eq_false (show ¬ x.1 < y.1 by omega)] at hR
          exact hR H' (Same.refl _)
      · intro p H' hp s hP
        obtain ⟨u1, u2⟩ := hlk s
        refine ⟨u1, ?_⟩
        have hpD : p ≠ D := by
          intro e
          rw [e, hD0] at hp
          cases hp
        have hP2 : (upd H' D (.dK (dctOf ls))) p = _ := (upd_ne hpD).trans hP
        walk_at "x"
        refine x_any hP2 ?_
        rw [List.length_map, show (dctOf ls).length = ls.length from List.length_map .., range_map_get (g := fun y => decide (x.1 < y.1) && shareF x.2.2 y.2.2) (fun i y hy => by rw [hy]; rfl)]
        walk_at "x"
        refine x_iteB (fun hbl => ?_) (fun hbl => ?_)
        · exact hT2 x ho hbl _ u2
        · walk_at "x"
          exact hT3 x ho hbl _ u2


end
end Br
namespace Br
open PySem PySem.Spec PyProof.Rows L2
local macro_rules | `(tactic| walk_at "x1") => `(tactic| (with_reducible first
  | refine Br.x_seq ?_ | refine Br.x_set ?_ | refine Br.x_asg ?_ | refine Br.x_next ?_ | refine Br.x_ret ?_ | refine Br.x_retN ?_ | refine Br.x_drop ?_ | refine Br.x_if ?_ | refine Br.x_brk ?_ | refine Br.x_cont ?_
  | refine Br.x_c ?_ | refine Br.x_op ?_ | refine Br.x_un ?_ | refine Br.x_I0 ?_ | refine Br.x_U ?_ | refine Br.x_EqI ?_ | refine Br.x_NeI ?_ | refine Br.x_EqB ?_ | refine Br.x_iN ?_ | refine Br.x_int1 ?_ | refine Br.x_min2 ?_ | refine Br.x_max2 ?_ | refine Br.x_nN ?_ | refine Br.x_ifE ?_
  | refine Br.x_test (b := ()) ?_ | refine Br.x_tB ?_ | refine Br.x_bl ?_ | refine Br.x_and ?_ | refine Br.x_or ?_ | refine Br.x_not ?_ | refine Br.x_andV ?_ | refine Br.x_orV ?_ | refine Br.x_notV ?_ | refine Br.x_blP ?_
  | refine Br.x_nil ?_ | refine Br.x_cons ?_ | refine Br.x_call ?_ | refine Br.x_CB ?_ | refine Br.x_BM ?_ | refine Br.x_tup ?_ | refine Br.x_lst ?_ | refine Br.x_chain ?_ | refine Br.x_par ?_ | refine Br.x_gSub ?_ | refine Br.x_gName ?_ | refine Br.x_fld ?_ | refine Br.x_fldS ?_ | refine Br.x_match ?_ | refine Br.x_else ?_ | refine Br.x_noCase ?_))
local macro_rules | `(tactic| walk_at "xv") => `(tactic| ((with_reducible refine' Br.x_var ?hvar ?_); (case hvar => rfl)))
local macro_rules | `(tactic| walk_at "xd") => `(tactic| (dsimp only [List.set_cons_zero, List.set_cons_succ, List.cons_append, List.nil_append, List.append_nil]))
local macro_rules | `(tactic| walk_at "xi") => `(tactic| ((with_reducible refine Br.x_I ?hside ?_); (case hside => first | exact Br.mul_r (by decide) (by decide) | exact Br.mul_l (by decide) (by decide) | exact Br.mul_l (by omega) (by omega) | exact Br.mul_r (by omega) (by omega) | (show (0 : Int) < _; first | decide | omega) | exact ⟨by decide, by decide⟩ | exact ⟨by omega, by omega⟩ | exact ⟨by decide, by decide, by decide⟩)))
local macro_rules | `(tactic| walk_at "x") => `(tactic| (repeat (first | walk_at "x1" | walk_at "xv" | walk_at "xi" | walk_at "xd")))
local macro_rules | `(tactic| walk_at "start") => `(tactic| (simp only [L2.start, List.map_cons, List.map_nil, List.length_cons, List.length_nil, Nat.reduceAdd, Nat.reduceSub, List.replicate, List.cons_append, List.nil_append, List.append_nil]))
local macro_rules | `(tactic| walk_at "isi") => `(tactic| first
  | refine Br.x_isi (b := true) (.base (.int _)) (by decide +kernel) ?_ | refine Br.x_isi (b := false) (.base (.int _)) (by decide +kernel) ?_
  | refine Br.x_isi (b := true) (.base (.bl _)) (by decide +kernel) ?_ | refine Br.x_isi (b := false) (.base (.bl _)) (by decide +kernel) ?_
  | refine Br.x_isi (b := false) (.base .non) (by decide +kernel) ?_
  | refine Br.x_isi (b := true) (.base (.str _)) (by decide +kernel) ?_ | refine Br.x_isi (b := false) (.base (.str _)) (by decide +kernel) ?_
  | refine Br.x_isi (b := true) (.base (.tup (by assumption))) (by decide +kernel) ?_ | refine Br.x_isi (b := false) (.base (.tup (by assumption))) (by decide +kernel) ?_
  | refine Br.x_isi (b := true) (.base (.lst (by assumption))) (by decide +kernel) ?_ | refine Br.x_isi (b := false) (.base (.lst (by assumption))) (by decide +kernel) ?_)
local macro_rules | `(tactic| walk_at "f") => `(tactic| (refine L2.iteF ?_; walk_at "x"))
local macro_rules | `(tactic| walk_at "t") => `(tactic| (refine L2.iteT ?_; walk_at "x"))
local macro_rules | `(tactic| walk_at "is") => `(tactic| (walk_at "isi"; walk_at "x"))
local macro_rules | `(tactic| walk_at "xb") => `(tactic| (simp only [Br.bindS, List.set_cons_zero, List.set_cons_succ]; walk_at "x"))

section
variable {P : Program} {w : World} {K : PySem.W.Frag} {mg : Str → Option Value} {base : Heap}

open Br.F
theorem getM_ints {mem : List Int} {pl : List Nat} : getM mem pl = pl.map fun i => mem.getD i 0 := rfl
theorem x_forPreZ {K : PySem.W.Frag} {σ : L2.St} {H : Hp} {D : Ends} {ta : TA} {g : TG} {tb : TS} {a b : Addr} {xs ys : List V} (h : ∀ R : List V → Hp → Prop, R [.ref a, .ref b] H → ta σ H R) (hx : SqL K H a xs) (hy : SqL K H b ys) (h2 : tFor (fun σ H R => R (Itz K a b) H) g tb D σ H) : tFor (iZip K ta) g tb D σ H := h _ ⟨a, b, xs, ys, rfl, hx, hy, h2⟩

def sp_Vault__perform (K : PySem.W.Frag) : Sp := fun vs H Q _ => ∃ (CV CL v M D a L : Addr) (AV : Addr → Prop) (m nt : Nat) (mem : List Int) (x : Ln) (as : List Addr) (ss : List Stp), vs = [.ref v, .ref a, .ref L] ∧ (∃ dx, H v = some (.ins CV dx (vaF M m D nt))) ∧ VC K CV ∧ H M = some (.lst (mem.map V.int)) ∧ Mem m mem.length mem ∧ AV M ∧ LnAt K CL AV H a x ∧ LnOk m mem.length x ∧
  SqL K H L (as.map V.ref) ∧ StpsAt H as ss ∧ PrOk ss m x.c x.i ∧
  ∀ H', Keep M H H' → H' M = some (.lst ((putM mem x.pl (runF m x.gv ss (getM mem x.pl))).map V.int)) → Q .non H'
theorem ok_Vault__perform (T : Txt K mg) : FnOk P w K mg base CX0 6 T.a_Vault__perform T.fd_Vault__perform ["self", "loan", "steps"] (sp_Vault__perform K) := by
  refine T.F_Vault__perform.ok sc_Vault__perform (fun vs H Q E h => ?_) (fun cdv A outer s H vs Q E hr h => ?_)
  · obtain ⟨CV, CL, v, M, D, a, L, AV, m, nt, mem, x, as, ss, rfl, _⟩ := h
    rfl
  · obtain ⟨CV, CL, v, M, D, a, L, AV, m, nt, mem, x, as, ss, rfl, ⟨dx, h1⟩, vc, hM, hmem, hav, hx, hok, hL, hst, pr, q⟩ := h
    obtain ⟨dy, S, P, G, as', g1, lc, g2, g3, g4, g5, n1, n2, n3⟩ := hx.at_
    have n1 : S ≠ M := fun e => n1 (e ▸ hav)
    have n2 : P ≠ M := fun e => n2 (e ▸ hav)
    have n3 : G ≠ M := fun e => n3 (e ▸ hav)
    have c60 := hok.pr.c60
    have hlen := hok.len
    refine ⟨_, (pss_cons (ps_setLc (i := 4) (own := [("place", 3)]) (g := gName 3) (tt := tYes) rfl sc_Vault__perform.nd rfl rfl (sw_true rfl rfl rfl (by decide +kernel)) (pi_list (pe_fld (pv 1) rfl)) (blkOk_by (N := N_Vault__perform) (sc := defScope s_Vault__perform) (by decide +kernel)) (fun _ _ _ _ _ => (pg_name (i := 3) sc_Vault__perform.nd rfl (Or.inl rfl))) (fun _ _ _ _ _ => pts_nil) (fun _ _ _ _ _ => (pe_ix (r := rIxL K) ix_list (pe_fldK (K2 := K) rfl (pv 0) (by rfl)) (pv 3) (fun _ _ => rfl))))
      (pss_cons (ps_set (i := 5) sc_Vault__perform.nd rfl (.inl rfl) (pe_call (ok_performed T) hr (by rfl) T.g_performed T.F_performed.kp T.b_performed .nil pass0 (pa_cons (pv 2) (pa_cons (pv 4) (pa_cons (pe_fld (pv 1) rfl) (pa_cons (pe_fld (pv 0) rfl) pa_nil))))))
      (pss_one (ps_for PassesOwn.never rfl (pi_zip (by rfl) T.m_zip (pa_cons (pe_fld (pv 1) rfl) (pa_cons (pv 5) pa_nil))) (pg_tup rfl (pgs_cons (pg_name (i := 3) sc_Vault__perform.nd rfl (Or.inl rfl)) (pgs_cons (pg_name (i := 6) sc_Vault__perform.nd rfl (Or.inl rfl)) pgs_nil)))
      (pss_one (ps_asg (pv 6) (pg_sub (pe_fld (pv 0) rfl) (pv 3) set_list))))))), ?_⟩
    walk_at "start"
    walk_at "x"
    refine x_lcL (a := P) (cInts x.pl) (fun p k H' => Same H H' ∧ H' p = some (.lst ((getM mem (x.pl.take k)).map V.int))) (fun R r => by walk_at "x"; exact x_fldR g1 lc.cl lc.p lnF_p r) (sq_of g4) (fun p hp => ⟨same_upd hp, upd_same⟩) (fun p k H' hp _ z => sq_of (z.1 _ _ g4)) (fun x => rfl) ?_ ?_
    · rintro p k z H' hp hz ⟨s, hP⟩
      obtain ⟨c, hc, rfl⟩ : ∃ c, x.pl[k]? = some c ∧ z = .int (c : Int) := by
        unfold cInts at hz
        rw [List.getElem?_map] at hz
        cases hk : x.pl[k]? with
        | none => rw [hk] at hz; cases hz
        | some c => rw [hk] at hz; exact ⟨c, rfl, (Option.some.inj hz).symm⟩
      have hcl := hok.lt c (List.mem_of_getElem? hc)
      have hk : k < x.pl.length := (List.getElem?_eq_some_iff.mp hc).1
      walk_at "x"
      refine x_fldR (s _ _ h1) vc.cl vc.m vaF_m ?_
      walk_at "x"
      obtain ⟨y, hy, hyd, _⟩ := hmem.get hcl
      refine x_ixL (v := .int y) (sq_of (s _ _ hM)) (atI_nat (by rw [List.getElem?_map, hy]; rfl)) ?_
      refine ⟨_, hP, lt_line (by rw [List.length_map]; unfold getM; rw [List.length_map, List.length_take]; omega), sput s hp, ?_⟩
      rw [upd_same, take_snoc hc]
      unfold getM
      rw [List.map_append, List.map_append]
      show _ = some (HO.lst (_ ++ [V.int (mem.getD c 0)]))
      rw [hyd]
    · rintro p H1 hp ⟨s1, hP⟩
      rw [show (cInts x.pl).length = x.pl.length by unfold cInts; rw [List.length_map], List.take_length] at hP
      walk_at "x"
      refine x_fldR (s1 _ _ g1) lc.cl lc.g lnF_g ?_
      walk_at "x"
      refine x_fldR (s1 _ _ h1) vc.cl vc.o vaF_o ?_
      walk_at "x"
      have hgm : Mem m x.c (getM mem x.pl) := by have := getM_mem hmem hok.lt; rw [hlen] at this; exact this
      refine ⟨L, p, G, as, ss, m, x.c, x.i, getM mem x.pl, x.gv, rfl, s1.seq hL, hst.tups (Tups.same s1), pr, sq_of hP, s1 _ _ g5, hgm, hok.gv, fun l H2 hl s2 hl2 => ?_⟩
      have s12 := s1.trans s2
      have hlM : l ≠ M := fun e => by
        have := s1 _ _ hM
        rw [← e, hl] at this
        cases this
      have hrm := runF_mem (inp := x.gv) (Nat.le_trans (by decide) pr.m2) hgm pr.ok
      generalize hzs : runF m x.gv ss (getM mem x.pl) = zs at hl2 hrm
      rw [hzs] at q
      have hzl := hrm.len
      walk_at "x"
      refine x_forI (J := Itz K P l) (n := x.pl.length) (fun R r => ?_) (walk_zip (xs := cInts x.pl) (ys := zs.map V.int) (by rw [List.length_map, show (cInts x.pl).length = x.pl.length by unfold cInts; rw [List.length_map]]; omega))
        (fun k σ' H' => ∃ v3 v6, σ' = [some (.ref v), some (.ref a), some (.ref L), v3, some (.ref p), some (.ref l), v6] ∧ Keep M H2 H' ∧ H' M = some (.lst ((putM mem (x.pl.take k) (zs.take k)).map V.int))) ?_ ?_ ?_ ?_
      · unfold iZip
        walk_at "x"
        refine x_fldR (s12 _ _ g1) lc.cl lc.p lnF_p ?_
        walk_at "x"
        exact ⟨P, l, _, _, rfl, sq_of (s12 _ _ g4), sq_of hl2, r⟩
      · exact ⟨_, _, rfl, Keep.refl _ _, s12 _ _ hM⟩
      · rintro k σ' H' _ ⟨v3, v6, rfl, k2, hm⟩
        exact ⟨sq_of (k2 _ _ (s12 _ _ g4) n2), sq_of (k2 _ _ hl2 hlM)⟩
      · rintro k _ σ' H' H3 hi ⟨v3, v6, rfl, k2, hm⟩ ⟨c, u, w, rfl, hc, rfl, gu, gv⟩
        obtain ⟨pk, hpk, rfl⟩ : ∃ pk, x.pl[k]? = some pk ∧ u = .int (pk : Int) := by
          have gu : ((x.pl.map fun (c : Nat) => V.int (c : Int)))[k]? = some u := gu
          rw [List.getElem?_map] at gu
          cases hk : x.pl[k]? with
          | none => rw [hk] at gu; cases gu
          | some c => rw [hk] at gu; exact ⟨c, rfl, (Option.some.inj gu).symm⟩
        obtain ⟨z, hz, rfl⟩ := map_get gv
        have hpl := hok.lt pk (List.mem_of_getElem? hpk)
        have up := same_upd (o := .tup [V.int (pk : Int), V.int z]) hc
        refine x_gTup2 (st_of upd_same) ?_
        have hvM : v ≠ M := ne_of (s12 _ _ h1) (s12 _ _ hM) (by intro z; cases z)
        have hv3 := up _ _ (k2 _ _ (s12 _ _ h1) hvM)
        have hM3 := up _ _ hm
        have k3 : Keep M H2 (upd H' c (.tup [V.int (pk : Int), V.int z])) := k2.trans (Same.keep up)
        generalize upd H' c (.tup [V.int (pk : Int), V.int z]) = H3 at hv3 hM3 k3
        walk_at "x"
        refine x_fldR hv3 vc.cl vc.m vaF_m ?_
        walk_at "x"
        refine x_subL (k := pk) hM3 (ixN_nat (by rw [List.length_map, putM_len]; exact hpl)) ?_
        refine ⟨_, _, rfl, k3.trans keep_upd, ?_⟩
        rw [upd_same, putM_snoc hpk hz, List.map_set]
      · rintro σ' H' ⟨v3, v6, rfl, k2, hm⟩
        walk_at "x"
        refine q H' ((Same.keep s12).trans k2) ?_
        rw [List.take_length, show x.pl.length = zs.length by omega, List.take_length] at hm
        exact hm


theorem x_fldaug {K : PySem.W.Frag} {σ : L2.St} {H : Hp} {D : Ends} {ta tv : TE} {rd : V → V → Hp → VK → Prop} {f : Str} (h : ta σ H fun x H1 => ∃ a C dx fs v, x = .ref a ∧ H1 a = some (.ins C dx fs) ∧ Cls K C ∧ NoAttr K C f ∧ fs.lookup f = some v ∧
  tv σ H1 fun y H2 => rd v y H2 fun z H3 => ∃ dx' fs', H3 a = some (.ins C dx' fs') ∧ fs'.length < 1000 ∧ D.nx σ (upd H3 a (.ins C dx' (putF f z fs')))) : sFldAug K ta tv rd f D σ H := h
theorem x_rAdd {i j : Int} {H : Hp} {Q : VK} (q : Q (.int (i + j)) H) : L2.rAdd (.int i) (.int j) H Q := ⟨i, j, rfl, rfl, q⟩
theorem cut_mid {xs : List V} {a b : Nat} (h1 : a ≤ xs.length) (h2 : a ≤ b) : cutV xs (some (a : Int)) (some (b : Int)) = (xs.drop a).take (min b xs.length - a) := by
  unfold cutV
  rw [HT.sIx_nat, HT.sIx_nat]
  show (xs.drop (min a xs.length)).take (min b xs.length - min a xs.length) = _
  rw [Nat.min_eq_left h1]
/-- one loan exchanged for another -/
def putL (ls : Lns) (t : Nat) (x' : Ln) : Lns := ls.map fun y => if y.1 = t then (y.1, y.2.1, x') else y
theorem putL_dct {ls : Lns} {t : Nat} {x' : Ln} : dctOf (putL ls t x') = dctOf ls := by
  unfold dctOf putL
  rw [List.map_map]
  refine List.map_congr_left fun y _ => ?_
  show (Sum.inl ((if y.1 = t then (y.1, y.2.1, x') else y).1 : Int), V.ref (if y.1 = t then (y.1, y.2.1, x') else y).2.1) = _
  split <;> rfl
theorem putL_map {β : Type} {ls : Lns} {t : Nat} {x' : Ln} {f : Nat → Addr → β} : (putL ls t x').map (fun y => f y.1 y.2.1) = ls.map (fun y => f y.1 y.2.1) := by
  unfold putL
  rw [List.map_map]
  refine List.map_congr_left fun y _ => ?_
  show f (if y.1 = t then (y.1, y.2.1, x') else y).1 (if y.1 = t then (y.1, y.2.1, x') else y).2.1 = _
  split <;> rfl
theorem putL_mem {ls : Lns} {t : Nat} {x' : Ln} {y : Nat × Addr × Ln} (h : y ∈ putL ls t x') : ∃ z, z ∈ ls ∧ z.1 = y.1 ∧ z.2.1 = y.2.1 ∧ ((z.1 = t ∧ y.2.2 = x') ∨ (z.1 ≠ t ∧ y = z)) := by
  obtain ⟨z, hz, rfl⟩ := List.mem_map.mp h
  by_cases e : z.1 = t
  · exact ⟨z, hz, by rw [if_pos e], by rw [if_pos e], .inl ⟨e, by rw [if_pos e]⟩⟩
  · exact ⟨z, hz, by rw [if_neg e], by rw [if_neg e], .inr ⟨e, by rw [if_neg e]⟩⟩
theorem uniq_tk {ls : Lns} (h : (ls.map fun x => x.1).Pairwise (· < ·)) {x y : Nat × Addr × Ln} (hx : x ∈ ls) (hy : y ∈ ls) (e : x.1 = y.1) : x = y := by
  have h1 := find_uniq h hx
  have h2 := find_uniq h hy
  rw [e, h2] at h1
  exact (Option.some.inj h1).symm
theorem uniq_ad : ∀ {ls : Lns}, (ls.map fun x => x.2.1).Nodup → ∀ {x y : Nat × Addr × Ln}, x ∈ ls → y ∈ ls → x.2.1 = y.2.1 → x = y
  | [], _, _, _, hx, _, _ => by cases hx
  | z :: ls, h, x, y, hx, hy, e => by
    rw [List.map_cons, List.nodup_cons] at h
    rcases List.mem_cons.mp hx with h1 | h1
    · rcases List.mem_cons.mp hy with h2 | h2
      · rw [h1, h2]
      · rw [h1] at e
        exact absurd (List.mem_map.mpr ⟨y, h2, e.symm⟩) h.1
    · rcases List.mem_cons.mp hy with h2 | h2
      · rw [h2] at e
        exact absurd (List.mem_map.mpr ⟨x, h1, e⟩) h.1
      · exact uniq_ad h.2 h1 h2 e
theorem PrOk.sub {ss ss' : List Stp} {m c i : Nat} (h : PrOk ss m c i) (hs : ∀ s, s ∈ ss' → s ∈ ss) (hl : ss'.length ≤ ss.length) : PrOk ss' m c i := ⟨h.m2, h.m9, h.c1, h.c60, h.i60, by have := h.len; omega, fun s hm => h.ok s (hs s hm)⟩
theorem stps_take {H : Hp} {as : List Addr} {ss : List Stp} (h : StpsAt H as ss) (n : Nat) : StpsAt H (as.take n) (ss.take n) := by
  refine ⟨by rw [List.length_take, List.length_take, h.1], fun i x b e1 e2 => ?_⟩
  rw [List.getElem?_take] at e1 e2
  by_cases hi : i < n
  · rw [if_pos hi] at e1 e2
    exact h.2 i x b e1 e2
  · rw [if_neg hi] at e1
    cases e1
theorem StpsAt.drop {H : Hp} {as : List Addr} {ss : List Stp} (h : StpsAt H as ss) (n : Nat) : StpsAt H (as.drop n) (ss.drop n) := by
  refine ⟨by rw [List.length_drop, List.length_drop, h.1], fun i x b e1 e2 => ?_⟩
  rw [List.getElem?_drop] at e1 e2
  exact h.2 _ x b e1 e2
/-- what advance performs -/
def advN (x : Ln) (most : Int) : Nat := min most.toNat (x.ss.length - x.done)
def advM (m : Nat) (mem : List Int) (x : Ln) (most : Int) : List Int := putM mem x.pl (runF m x.gv ((x.ss.drop x.done).take (advN x most)) (getM mem x.pl))
def advL (x : Ln) (most : Int) : Ln := { x with done := x.done + advN x most }
theorem advL_ok {m n : Nat} {x : Ln} {most : Int} (h : LnOk m n x) : LnOk m n (advL x most) := ⟨h.pr, h.len, h.nd, h.lt, h.gv, by
  show x.done + advN x most ≤ x.ss.length
  have := h.dn
  unfold advN
  omega⟩
theorem perf_mem {m : Nat} {mem : List Int} {x : Ln} {ss : List Stp} (hm : Mem m mem.length mem) (h : LnOk m mem.length x) (hs : PrOk ss m x.c x.i) : Mem m mem.length (putM mem x.pl (runF m x.gv ss (getM mem x.pl))) := by
  have hgm : Mem m x.c (getM mem x.pl) := by have := getM_mem hm h.lt; rw [h.len] at this; exact this
  exact putM_mem hm (runF_mem (Nat.le_trans (by decide) hs.m2) hgm hs.ok).rg
theorem va_step {K : PySem.W.Frag} {CV CL : Addr} {AV : Addr → Prop} {H H' : Hp} {v M D : Addr} {m nt : Nat} {mem mem' : List Int} {ls : Lns} {x : Nat × Addr × Ln} {d' : Nat} (hV : VaAt K CV CL AV H v M D m nt mem ls) (hx : x ∈ ls) (hk : KeepS (fun b => b = M ∨ b = x.2.1) H H') (hM : H' M = some (.lst (mem'.map V.int)))
    (hA : ∀ dx S P G, H x.2.1 = some (.ins CL dx (lnF S P G x.2.2.first x.2.2.done)) → H' x.2.1 = some (.ins CL dx (lnF S P G x.2.2.first d'))) (hm : Mem m mem.length mem') (ho : LnOk m mem.length { x.2.2 with done := d' }) :
    VaAt K CV CL AV H' v M D m nt mem' (putL ls x.1 { x.2.2 with done := d' }) := by
  obtain ⟨dx, h1⟩ := hV.ob
  have hmm := hV.mm
  have hdd := hV.dd
  obtain ⟨dy, S, P, G, as, g1, lc, g2, g3, g4, g5, n1, n2, n3⟩ := (hV.ln x hx).at_
  have hl := hm.len
  have xM : x.2.1 ≠ M := ne_of g1 hmm (by intro z; cases z)
  refine ⟨⟨dx, hk _ _ h1 ?_⟩, hV.vc, hM, ?_, hV.av, fun y hy => ?_, ?_, fun y hy => ?_, ?_, fun y hy => ?_, by rw [hl]; exact hm, fun y hy => ?_, hV.m2, hV.m9, by rw [hl]; exact hV.n1, by rw [hl]; exact hV.n2⟩
  · rintro (e | e)
    · exact ne_of h1 hmm (by intro z; cases z) e
    · exact hV.nv x hx e.symm
  · rw [putL_dct]
    refine hk _ _ hdd ?_
    rintro (e | e)
    · exact ne_of hdd hmm (by intro z; cases z) e
    · exact ne_of hdd g1 (by intro z; cases z) e
  · obtain ⟨z, hz, e1, e2, h⟩ := putL_mem hy
    rcases h with ⟨e3, e4⟩ | ⟨e3, rfl⟩
    · have := uniq_tk hV.asc hz hx e3
      subst this
      rw [← e2, e4]
      have keepL : ∀ b xs, H b = some (.lst xs) → ¬ AV b → H' b = some (.lst xs) := fun b xs e n => hk b _ e (by
        rintro (h | h)
        · exact n (h ▸ hV.av)
        · exact ne_of e g1 (by intro z; cases z) h)
      refine ⟨dy, S, P, G, as, hA dy S P G g1, lc, keepL _ _ g2 n1, g3.tups fun b xs e => hk b _ e ?_, keepL _ _ g4 n2, keepL _ _ g5 n3, n1, n2, n3⟩
      rintro (h | h)
      · exact ne_of e hmm (by intro z; cases z) h
      · exact ne_of e g1 (by intro z; cases z) h
    · refine (hV.ln y hz).keep hk fun b hb => ?_
      obtain ⟨_, _, _, _, _, k1, _⟩ := (hV.ln y hz).at_
      rcases hb with rfl | rfl
      · exact ⟨ne_of hmm k1 (by intro z; cases z), .inl hV.av, fun xs e => by rw [hmm] at e; cases e⟩
      · refine ⟨fun e => ?_, .inr (fun xs e => by rw [g1] at e; cases e), fun xs e => by rw [g1] at e; cases e⟩
        exact e3 (by rw [uniq_ad hV.inj hz hx e.symm])
  · rw [putL_map (f := fun _ a => a)]; exact hV.inj
  · obtain ⟨z, hz, e1, e2, _⟩ := putL_mem hy
    rw [← e2]; exact hV.nv z hz
  · rw [putL_map (f := fun t _ => t)]; exact hV.asc
  · obtain ⟨z, hz, e1, e2, _⟩ := putL_mem hy
    rw [← e1]; exact hV.lt z hz
  · obtain ⟨z, hz, e1, e2, h⟩ := putL_mem hy
    rw [hl]
    rcases h with ⟨e3, e4⟩ | ⟨e3, rfl⟩
    · rw [e4]; exact ho
    · exact hV.ok y hz

def sp_Vault_advance (CV BT BZ : Addr) (K : PySem.W.Frag) : Sp := fun vs H Q E => ∃ (CL v M D : Addr) (AV : Addr → Prop) (m nt : Nat) (mem : List Int) (ls : Lns) (t : V) (most : Int), vs = [.ref v, t, .int most] ∧ VaAt K CV CL AV H v M D m nt mem ls ∧ Odd H t ∧ ls.length ≤ 1000 ∧ most < 2 ^ 40 ∧
  TkAsk BT BZ ls t H E fun x => ∀ H', VaAt K CV CL AV H' v M D m nt (advM m mem x.2.2 most) (putL ls x.1 (advL x.2.2 most)) → KeepS (fun b => b = M ∨ b = x.2.1) H H' → Q (.int (advN x.2.2 most : Nat)) H'
theorem ok_Vault_advance (T : Txt K mg) : FnOk P w K mg base (L2.CX P w) 7 T.a_Vault_advance T.fd_Vault_advance ["self", "ticket", "most"] (sp_Vault_advance T.C_Vault T.E_BadTicket T.E_Busy K) := by
  refine T.F_Vault_advance.okX sc_Vault_advance (fun vs H Q E h => ?_) (fun cdv A outer s H vs Q E hr h => ?_)
  · obtain ⟨CL, v, M, D, AV, m, nt, mem, ls, t, most, rfl, _⟩ := h
    rfl
  · obtain ⟨CL, v, M, D, AV, m, nt, mem, ls, t, most, rfl, hV, ht, hl9, hmost, hT1, hT2, hT3⟩ := h
    obtain ⟨dx, h1⟩ := hV.ob
    have vc := hV.vc
    refine ⟨_, (pss_cons (ps_set (i := 3) sc_Vault_advance.nd rfl (.inl rfl) (pe_meth (pv 0) T.cl_Vault T.me_Vault__free_loan (ok_Vault__free_loan T) (hr.mono (by decide)) T.b_Vault__free_loan .nil (passes_call (takes_of rfl rfl rfl rfl) (fun _ _ _ _ h => h)) (pa_cons (pv 1) pa_nil)))
      (PSs.nox (pss_cons (ps_set (i := 4) sc_Vault_advance.nd rfl (.inl rfl) (pe_slice (r := rSlL K) sl_list (pe_fld (pv 3) rfl) (po_some (pe_fld (pv 3) rfl)) (po_some (pe_op op_add (pe_fld (pv 3) rfl) (pe_callB (id := "max") (r := rMax2) (cr_max2 rfl) (by rfl) T.m_max (by decide +kernel) (pa_cons pe_int (pa_cons (pv 2) pa_nil)))))))
      (pss_cons (ps_expr (pe_meth (pv 0) T.cl_Vault T.me_Vault__perform (ok_Vault__perform T) (hr.mono (by decide)) T.b_Vault__perform .nil pass0 (pa_cons (pv 3) (pa_cons (pv 4) pa_nil))))
      (pss_cons (ps_fldaug (pv 3) (pe_callB (id := "len") (r := rLen K) cr_len (by rfl) T.m_len PySem.boot_len (pa_cons (pv 4) pa_nil)) in_add)
      (pss_one (ps_ret (pe_callB (id := "len") (r := rLen K) cr_len (by rfl) T.m_len PySem.boot_len (pa_cons (pv 4) pa_nil))))))))), ?_⟩
    walk_at "start"
    refine x_seq ?_
    refine x_set ?_
    refine x_meth1 ?_
    walk_at "x"
    refine ⟨v, dx, _, rfl, h1, rfl, ?_⟩
    walk_at "x"
    refine ⟨_, CL, v, M, D, AV, m, nt, mem, ls, t, rfl, hV, ht, hl9, hT1, hT2, fun x ho hb H1 s1 => ?_⟩
    have hx := (openAt_mem ho).1
    have hV1 := hV.same s1
    have hok := hV.ok x hx
    have hdn := hok.dn
    have hlen := hok.pr.len
    obtain ⟨dy, S, P, G, as, g1, lc, g2, g3, g4, g5, n1, n2, n3⟩ := (hV1.ln x hx).at_
    have hal := g3.1
    walk_at "x"
    refine x_sl2 ?_
    walk_at "x"
    refine x_fldR g1 lc.cl lc.s lnF_s ?_
    refine x_part1 ?_
    walk_at "x"
    refine x_fldR g1 lc.cl lc.d lnF_d ?_
    refine ⟨_, rfl, x_part1 ?_⟩
    walk_at "x"
    refine x_fldR g1 lc.cl lc.d lnF_d ?_
    walk_at "x"
    refine ⟨_, rfl, x_cutL (sq_of g2) fun r hr => ?_⟩
    rw [show (x.2.2.done : Int) + (if most > 0 then most else 0) = ((x.2.2.done + most.toNat : Nat) : Int) by split <;> omega, cut_mid (by rw [List.length_map]; omega) (by omega), List.length_map, show min (x.2.2.done + most.toNat) as.length - x.2.2.done = advN x.2.2 most by unfold advN; omega, ← List.map_drop, ← List.map_take]
    have s2 := same_upd (o := .lst (((as.drop x.2.2.done).take (advN x.2.2 most)).map V.ref)) hr
    have e2 : (upd H1 r (.lst (((as.drop x.2.2.done).take (advN x.2.2 most)).map V.ref))) r = some (.lst (((as.drop x.2.2.done).take (advN x.2.2 most)).map V.ref)) := upd_same
    have hrM : r ≠ M := fun e => by rw [e, hV1.mm] at hr; cases hr
    have hra : r ≠ x.2.1 := fun e => by rw [e, g1] at hr; cases hr
    generalize upd H1 r (.lst (((as.drop x.2.2.done).take (advN x.2.2 most)).map V.ref)) = H2 at s2 e2
    have hV2 := hV1.same s2
    obtain ⟨dx2, h12⟩ := hV2.ob
    have pr : PrOk ((x.2.2.ss.drop x.2.2.done).take (advN x.2.2 most)) m x.2.2.c x.2.2.i := hok.pr.sub (fun s hs => List.mem_of_mem_drop (List.mem_of_mem_take hs)) (by rw [List.length_take, List.length_drop]; omega)
    walk_at "x"
    refine x_meth1 ?_
    walk_at "x"
    refine ⟨v, dx2, _, rfl, h12, rfl, ?_⟩
    walk_at "x"
    refine ⟨_, CL, v, M, D, x.2.1, r, AV, m, nt, mem, x.2.2, _, _, rfl, ⟨dx2, h12⟩, vc, hV2.mm, hV2.mok, hV2.av, hV2.ln x hx, hok, sq_of e2, stps_take ((g3.tups (Tups.same s2)).drop x.2.2.done) (advN x.2.2 most), pr, fun H3 k3 hM3 => ?_⟩
    have g13 := k3 _ _ (s2 _ _ g1) (ne_of g1 hV1.mm (by intro z; cases z))
    have e3 := k3 _ _ e2 hrM
    have hcl : (((as.drop x.2.2.done).take (advN x.2.2 most)).map V.ref).length = advN x.2.2 most := by rw [List.length_map, List.length_take, List.length_drop]; unfold advN; omega
    walk_at "x"
    refine x_fldaug ?_
    walk_at "x"
    refine ⟨x.2.1, CL, dy, _, _, rfl, g13, lc.cl, lc.d, lnF_d, ?_⟩
    walk_at "x"
    refine x_len (sq_of e3) ?_
    rw [hcl]
    refine x_rAdd ⟨dy, _, g13, by show 5 < 1000; decide, ?_⟩
    rw [lnF_put, show (x.2.2.done : Int) + (advN x.2.2 most : Nat) = ((x.2.2.done + advN x.2.2 most : Nat) : Int) by omega]
    have hfin : ∀ H4 : Hp, H4 = upd H3 x.2.1 (.ins CL dy (lnF S P G x.2.2.first ((x.2.2.done + advN x.2.2 most : Nat) : Int))) → Q (.int (advN x.2.2 most : Nat)) H4 := fun H4 hH4 => by
      have kk : KeepS (fun b => b = M ∨ b = x.2.1) H H4 := fun b o e hb => by
        rw [hH4, upd_ne (fun z => hb (.inr z))]
        exact k3 _ _ (s2 _ _ (s1 _ _ e)) (fun z => hb (.inl z))
      have kk1 : KeepS (fun b => b = M ∨ b = x.2.1) H1 H4 := fun b o e hb => by
        rw [hH4, upd_ne (fun z => hb (.inr z))]
        exact k3 _ _ (s2 _ _ e) (fun z => hb (.inl z))
      refine hT3 x ho hb H4 (va_step hV1 hx kk1 (by rw [hH4, upd_ne (ne_of hV1.mm g1 (by intro z; cases z))]; exact hM3) (fun dx' S' P' G' hA => ?_) (perf_mem hV1.mok hok pr) (advL_ok hok)) kk
      rw [g1] at hA
      cases hA
      rw [hH4, upd_same]
    have e4 : (upd H3 x.2.1 (.ins CL dy (lnF S P G x.2.2.first ((x.2.2.done + advN x.2.2 most : Nat) : Int)))) r = _ := (upd_ne hra).trans e3
    walk_at "x"
    refine x_len (sq_of e4) ?_
    rw [hcl]
    exact hfin _ rfl


end
end Br
namespace Br
open PySem PySem.Spec PyProof.Rows L2
local macro_rules | `(tactic| walk_at "x1") => `(tactic| (with_reducible first
  | refine Br.x_seq ?_ | refine Br.x_set ?_ | refine Br.x_asg ?_ | refine Br.x_next ?_ | refine Br.x_ret ?_ | refine Br.x_retN ?_ | refine Br.x_drop ?_ | refine Br.x_if ?_ | refine Br.x_brk ?_ | refine Br.x_cont ?_
  | refine Br.x_c ?_ | refine Br.x_op ?_ | refine Br.x_un ?_ | refine Br.x_I0 ?_ | refine Br.x_U ?_ | refine Br.x_EqI ?_ | refine Br.x_NeI ?_ | refine Br.x_EqB ?_ | refine Br.x_iN ?_ | refine Br.x_int1 ?_ | refine Br.x_min2 ?_ | refine Br.x_max2 ?_ | refine Br.x_nN ?_ | refine Br.x_ifE ?_
  | refine Br.x_test (b := ()) ?_ | refine Br.x_tB ?_ | refine Br.x_bl ?_ | refine Br.x_and ?_ | refine Br.x_or ?_ | refine Br.x_not ?_ | refine Br.x_andV ?_ | refine Br.x_orV ?_ | refine Br.x_notV ?_ | refine Br.x_blP ?_
  | refine Br.x_nil ?_ | refine Br.x_cons ?_ | refine Br.x_call ?_ | refine Br.x_CB ?_ | refine Br.x_BM ?_ | refine Br.x_tup ?_ | refine Br.x_lst ?_ | refine Br.x_chain ?_ | refine Br.x_par ?_ | refine Br.x_gSub ?_ | refine Br.x_gName ?_ | refine Br.x_fld ?_ | refine Br.x_fldS ?_ | refine Br.x_match ?_ | refine Br.x_else ?_ | refine Br.x_noCase ?_))
local macro_rules | `(tactic| walk_at "xv") => `(tactic| ((with_reducible refine' Br.x_var ?hvar ?_); (case hvar => rfl)))
local macro_rules | `(tactic| walk_at "xd") => `(tactic| (dsimp only [List.set_cons_zero, List.set_cons_succ, List.cons_append, List.nil_append, List.append_nil]))
local macro_rules | `(tactic| walk_at "xi") => `(tactic| ((with_reducible refine Br.x_I ?hside ?_); (case hside => first | exact Br.mul_r (by decide) (by decide) | exact Br.mul_l (by decide) (by decide) | exact Br.mul_l (by omega) (by omega) | exact Br.mul_r (by omega) (by omega) | (show (0 : Int) < _; first | decide | omega) | exact ⟨by decide, by decide⟩ | exact ⟨by omega, by omega⟩ | exact ⟨by decide, by decide, by decide⟩)))
local macro_rules | `(tactic| walk_at "x") => `(tactic| (repeat (first | walk_at "x1" | walk_at "xv" | walk_at "xi" | walk_at "xd")))
local macro_rules | `(tactic| walk_at "start") => `(tactic| (simp only [L2.start, List.map_cons, List.map_nil, List.length_cons, List.length_nil, Nat.reduceAdd, Nat.reduceSub, List.replicate, List.cons_append, List.nil_append, List.append_nil]))
local macro_rules | `(tactic| walk_at "isi") => `(tactic| first
  | refine Br.x_isi (b := true) (.base (.int _)) (by decide +kernel) ?_ | refine Br.x_isi (b := false) (.base (.int _)) (by decide +kernel) ?_
  | refine Br.x_isi (b := true) (.base (.bl _)) (by decide +kernel) ?_ | refine Br.x_isi (b := false) (.base (.bl _)) (by decide +kernel) ?_
  | refine Br.x_isi (b := false) (.base .non) (by decide +kernel) ?_
  | refine Br.x_isi (b := true) (.base (.str _)) (by decide +kernel) ?_ | refine Br.x_isi (b := false) (.base (.str _)) (by decide +kernel) ?_
  | refine Br.x_isi (b := true) (.base (.tup (by assumption))) (by decide +kernel) ?_ | refine Br.x_isi (b := false) (.base (.tup (by assumption))) (by decide +kernel) ?_
  | refine Br.x_isi (b := true) (.base (.lst (by assumption))) (by decide +kernel) ?_ | refine Br.x_isi (b := false) (.base (.lst (by assumption))) (by decide +kernel) ?_)
local macro_rules | `(tactic| walk_at "f") => `(tactic| (refine L2.iteF ?_; walk_at "x"))
local macro_rules | `(tactic| walk_at "t") => `(tactic| (refine L2.iteT ?_; walk_at "x"))
local macro_rules | `(tactic| walk_at "is") => `(tactic| (walk_at "isi"; walk_at "x"))
local macro_rules | `(tactic| walk_at "xb") => `(tactic| (simp only [Br.bindS, List.set_cons_zero, List.set_cons_succ]; walk_at "x"))

section
variable {P : Program} {w : World} {K : PySem.W.Frag} {mg : Str → Option Value} {base : Heap}

open Br.F

def ansF (m : Nat) (mem : List Int) (x : Ln) : Int := (mem.getD (x.pl.getD 0 0) 0 - x.first) % m
def sp_Vault_answer (CV BT BZ : Addr) (K : PySem.W.Frag) : Sp := fun vs H Q E => ∃ (CL v M D : Addr) (AV : Addr → Prop) (m nt : Nat) (mem : List Int) (ls : Lns) (t : V), vs = [.ref v, t] ∧ VaAt K CV CL AV H v M D m nt mem ls ∧ Odd H t ∧ ls.length ≤ 1000 ∧
  TkAsk BT BZ ls t H E fun x => ∀ H', Same H H' → (x.2.2.done < x.2.2.ss.length → E (.ref BZ) none H') ∧ (x.2.2.done = x.2.2.ss.length → Q (.int (ansF m mem x.2.2)) H')
theorem ok_Vault_answer (T : Txt K mg) : FnOk P w K mg base (L2.CX P w) 3 T.a_Vault_answer T.fd_Vault_answer ["self", "ticket"] (sp_Vault_answer T.C_Vault T.E_BadTicket T.E_Busy K) := by
  refine T.F_Vault_answer.okX sc_Vault_answer (fun vs H Q E h => ?_) (fun cdv A outer s H vs Q E hr h => ?_)
  · obtain ⟨CL, v, M, D, AV, m, nt, mem, ls, t, rfl, _⟩ := h
    rfl
  · obtain ⟨CL, v, M, D, AV, m, nt, mem, ls, t, rfl, hV, ht, hl9, hT1, hT2, hT3⟩ := h
    obtain ⟨dx, h1⟩ := hV.ob
    have vc := hV.vc
    have m2 := hV.m2
    refine ⟨_, (pss_cons (ps_set (i := 2) sc_Vault_answer.nd rfl (.inl rfl) (pe_meth (pv 0) T.cl_Vault T.me_Vault__free_loan (ok_Vault__free_loan T) (hr.mono (by decide)) T.b_Vault__free_loan .nil (passes_call (takes_of rfl rfl rfl rfl) (fun _ _ _ _ h => h)) (pa_cons (pv 1) pa_nil)))
      (pss_cons (ps_if (pt_cmpR op_lt (pe_fld (pv 2) rfl) (pe_callB (id := "len") (r := rLen K) cr_len (by rfl) T.m_len PySem.boot_len (pa_cons (pe_fld (pv 2) rfl) pa_nil)) (nomark _))
      (pss_one (ps_raise rfl (takes_of rfl rfl rfl rfl) (pmk_own PySem.F.excBase_ValueError T.xE_Busy T.gE_Busy T.kE_Busy (raises_own T.bE_Busy T.tE_Busy) (by exact rfl))))
      pss_nil)
      (PSs.nox (pss_one (ps_ret (pe_op op_mod (pe_op op_sub (pe_ix (r := rIxL K) ix_list (pe_fld (pv 0) rfl) (pe_ix (r := rIxL K) ix_list (pe_fld (pv 2) rfl) pe_int (fun _ _ => rfl)) (fun _ _ => rfl)) (pe_fld (pv 2) rfl)) (pe_fld (pv 0) rfl))))))), ?_⟩
    walk_at "start"
    refine x_seq ?_
    refine x_set ?_
    refine x_meth1 ?_
    walk_at "x"
    refine ⟨v, dx, _, rfl, h1, rfl, ?_⟩
    walk_at "x"
    refine ⟨_, CL, v, M, D, AV, m, nt, mem, ls, t, rfl, hV, ht, hl9, hT1, hT2, fun x ho hb H1 s1 => ?_⟩
    have hx := (openAt_mem ho).1
    have hV1 := hV.same s1
    have hok := hV.ok x hx
    have hdn := hok.dn
    obtain ⟨dy, S, P, G, as, g1, lc, g2, g3, g4, g5, n1, n2, n3⟩ := (hV1.ln x hx).at_
    have hal := g3.1
    obtain ⟨q1, q2⟩ := hT3 x ho hb H1 s1
    walk_at "x"
    refine x_fldR g1 lc.cl lc.d lnF_d ?_
    walk_at "x"
    refine x_fldR g1 lc.cl lc.s lnF_s ?_
    walk_at "x"
    refine x_len (sq_of g2) ?_
    walk_at "x"
    rw [List.length_map]
    refine x_ite (fun hlt => ?_) (fun hlt => ?_)
    · exact q1 (by omega)
    · have hq := q2 (by omega)
      have hc1 := hok.pr.c1
      have hpl := hok.len
      obtain ⟨p0, hp0⟩ : ∃ p0, x.2.2.pl[0]? = some p0 := ⟨_, List.getElem?_eq_getElem (by omega)⟩
      have hp1 : x.2.2.pl.getD 0 0 = p0 := by rw [List.getD_eq_getElem?_getD, hp0]; rfl
      obtain ⟨z, hz, hzd, z0, z1⟩ := hV.mok.get (hok.lt p0 (List.mem_of_getElem? hp0))
      obtain ⟨dx1, h11⟩ := hV1.ob
      walk_at "x"
      refine x_fldR h11 vc.cl vc.m vaF_m ?_
      walk_at "x"
      refine x_fldR g1 lc.cl lc.p lnF_p ?_
      walk_at "x"
      refine x_ixL (v := .int (p0 : Int)) (sq_of g4) (atI_nat (j := 0) (by show ((x.2.2.pl.map fun (c : Nat) => V.int (c : Int)))[0]? = _; rw [List.getElem?_map, hp0]; rfl)) ?_
      walk_at "x"
      refine x_ixL (v := .int z) (sq_of hV1.mm) (atI_nat (by rw [List.getElem?_map, hz]; rfl)) ?_
      walk_at "x"
      refine x_fldR g1 lc.cl lc.f lnF_f ?_
      walk_at "x"
      refine x_fldR h11 vc.cl vc.o vaF_o ?_
      walk_at "x"
      have e : ansF m mem x.2.2 = (z - x.2.2.first) % (m : Int) := by unfold ansF; rw [hp1, hzd]
      rw [e] at hq
      exact hq

/-- without a loan -/
def dropL (ls : Lns) (t : Nat) : Lns := ls.filter fun y => decide (y.1 ≠ t)
theorem dropL_dct {ls : Lns} {t : Nat} : dropK (dctOf ls) (Sum.inl (t : Int)) = dctOf (dropL ls t) := by
  unfold dropK dctOf dropL
  rw [List.filter_map]
  congr 1
  refine List.filter_congr fun y _ => ?_
  refine decide_eq_decide.mpr ?_
  constructor
  · intro h e; exact h (by show Sum.inl (y.1 : Int) = _; rw [e])
  · intro h e; exact h (by have := Sum.inl.inj e; omega)
theorem dropL_mem {ls : Lns} {t : Nat} {y : Nat × Addr × Ln} (h : y ∈ dropL ls t) : y ∈ ls ∧ y.1 ≠ t := by
  obtain ⟨h1, h2⟩ := List.mem_filter.mp h
  exact ⟨h1, of_decide_eq_true h2⟩
/-- the memory behind a recall -/
def recM (m : Nat) (mem : List Int) (x : Ln) (back : List Stp) : List Int := putM mem x.pl (runF m x.gv back (getM mem x.pl))
theorem x_delD {td ty : TE} {σ : L2.St} {H : Hp} {D : Ends} (h : td σ H fun x H1 => ty σ H1 fun y H2 => ∃ a kvs k, x = .ref a ∧ H2 a = some (.dK kvs) ∧ y = kV k ∧ (valV kvs k).isSome = true ∧ D.nx σ (upd H2 a (.dK (dropK kvs k)))) : sDDel td ty D σ H := h

def sp_Vault_recall (CV BT BZ : Addr) (K : PySem.W.Frag) : Sp := fun vs H Q E => ∃ (CL v M D : Addr) (AV : Addr → Prop) (m nt : Nat) (mem : List Int) (ls : Lns) (t : V), vs = [.ref v, t] ∧ VaAt K CV CL AV H v M D m nt mem ls ∧ Odd H t ∧ ls.length ≤ 1000 ∧
  TkAsk BT BZ ls t H E fun x => ∀ (H' : Hp) (back : List Stp), BackOf m (x.2.2.ss.take x.2.2.done) back → VaAt K CV CL AV H' v M D m nt (recM m mem x.2.2 back) (dropL ls x.1) → KeepS (fun b => b = M ∨ b = D) H H' → Q (.int (x.2.2.done : Nat)) H'
theorem ok_Vault_recall (T : Txt K mg) : FnOk P w K mg base (L2.CX P w) 7 T.a_Vault_recall T.fd_Vault_recall ["self", "ticket"] (sp_Vault_recall T.C_Vault T.E_BadTicket T.E_Busy K) := by
  refine T.F_Vault_recall.okX sc_Vault_recall (fun vs H Q E h => ?_) (fun cdv A outer s H vs Q E hr h => ?_)
  · obtain ⟨CL, v, M, D, AV, m, nt, mem, ls, t, rfl, _⟩ := h
    rfl
  · obtain ⟨CL, v, M, D, AV, m, nt, mem, ls, t, rfl, hV, ht, hl9, hT1, hT2, hT3⟩ := h
    obtain ⟨dx, h1⟩ := hV.ob
    have vc := hV.vc
    have m2 := hV.m2
    have m9 := hV.m9
    refine ⟨_, (pss_cons (ps_set (i := 2) sc_Vault_recall.nd rfl (.inl rfl) (pe_meth (pv 0) T.cl_Vault T.me_Vault__free_loan (ok_Vault__free_loan T) (hr.mono (by decide)) T.b_Vault__free_loan .nil (passes_call (takes_of rfl rfl rfl rfl) (fun _ _ _ _ h => h)) (pa_cons (pv 1) pa_nil)))
      (PSs.nox (pss_cons (ps_set (i := 3) sc_Vault_recall.nd rfl (.inl rfl) (pe_slice (r := rSlL K) sl_list (pe_fld (pv 2) rfl) po_none (po_some (pe_fld (pv 2) rfl))))
      (pss_cons (ps_expr (pe_meth (pv 0) T.cl_Vault T.me_Vault__perform (ok_Vault__perform T) (hr.mono (by decide)) T.b_Vault__perform .nil pass0 (pa_cons (pv 2) (pa_cons (pe_lc (own := [("step", 4)]) (g := gName 4) (tt := tYes) rfl sc_Vault_recall.nd (pi_list (pe_revL (pv 3))) (blkOk_by (N := N_Vault_recall) (sc := defScope s_Vault_recall) (by decide +kernel)) (fun _ _ _ _ _ => (pg_name (i := 4) sc_Vault_recall.nd rfl (Or.inl rfl))) (fun _ _ _ _ _ => pts_nil) (fun _ _ _ _ _ => (pe_call (ok_inverse_step T) (hr.mono (by decide)) (by rfl) T.g_inverse_step T.F_inverse_step.kp T.b_inverse_step .nil pass0 (pa_cons (pv 4) (pa_cons (pe_fldK (K2 := K) rfl (pv 0) (by rfl)) pa_nil))))) pa_nil))))
      (pss_cons (ps_ddel (pe_fld (pv 0) rfl) (pv 1))
      (pss_one (ps_ret (pe_callB (id := "len") (r := rLen K) cr_len (by rfl) T.m_len PySem.boot_len (pa_cons (pv 3) pa_nil))))))))), ?_⟩
    walk_at "start"
    refine x_seq ?_
    refine x_set ?_
    refine x_meth1 ?_
    walk_at "x"
    refine ⟨v, dx, _, rfl, h1, rfl, ?_⟩
    walk_at "x"
    refine ⟨_, CL, v, M, D, AV, m, nt, mem, ls, t, rfl, hV, ht, hl9, hT1, hT2, fun x ho hb H1 s1 => ?_⟩
    have hto := ho
    have hx := (openAt_mem ho).1
    have hV1 := hV.same s1
    have hok := hV.ok x hx
    have hdn := hok.dn
    have hlen := hok.pr.len
    obtain ⟨dy, S, P, G, as, g1, lc, g2, g3, g4, g5, n1, n2, n3⟩ := (hV1.ln x hx).at_
    have hal := g3.1
    walk_at "x"
    refine x_sl2 ?_
    walk_at "x"
    refine x_fldR g1 lc.cl lc.s lnF_s ?_
    refine x_part0 (x_part1 ?_)
    walk_at "x"
    refine x_fldR g1 lc.cl lc.d lnF_d ?_
    refine ⟨_, rfl, x_cutL (sq_of g2) fun r hr => ?_⟩
    rw [cut_take, ← List.map_take]
    have s2 := same_upd (o := .lst ((as.take x.2.2.done).map V.ref)) hr
    have e2 : (upd H1 r (.lst ((as.take x.2.2.done).map V.ref))) r = some (.lst ((as.take x.2.2.done).map V.ref)) := upd_same
    have hrM : r ≠ M := fun e => by rw [e, hV1.mm] at hr; cases hr
    have hrD : r ≠ D := fun e => by rw [e, hV1.dd] at hr; cases hr
    generalize upd H1 r (.lst ((as.take x.2.2.done).map V.ref)) = H2 at s2 e2
    have hV2 := hV1.same s2
    obtain ⟨dx2, h12⟩ := hV2.ob
    walk_at "x"
    refine x_meth1 ?_
    walk_at "x"
    refine ⟨v, dx2, _, rfl, h12, rfl, ?_⟩
    walk_at "x"
    refine x_lcPreL ?_
    refine x_revL ?_
    walk_at "x"
    refine ⟨r, _, rfl, sq_of e2, fun r2 hr2 => ?_⟩
    have s3 := same_upd (o := .lst ((as.take x.2.2.done).map V.ref).reverse) hr2
    have e3 : (upd H2 r2 (.lst ((as.take x.2.2.done).map V.ref).reverse)) r2 = some (.lst ((as.take x.2.2.done).map V.ref).reverse) := upd_same
    generalize upd H2 r2 (.lst ((as.take x.2.2.done).map V.ref).reverse) = H3 at s3 e3
    have g33 := stps_take (g3.tups (Tups.same (s2.trans s3))) x.2.2.done
    have hrl : ((as.take x.2.2.done).map V.ref).reverse.length = (x.2.2.ss.take x.2.2.done).length := by rw [List.length_reverse, List.length_map, g33.1]
    have h13 := s3 _ _ h12
    have hoks : ∀ s, s ∈ x.2.2.ss.take x.2.2.done → StpOk m x.2.2.c x.2.2.i s := fun s hs => hok.pr.ok s (List.mem_of_mem_take hs)
    have htl : (x.2.2.ss.take x.2.2.done).length = x.2.2.done := by rw [List.length_take]; omega
    generalize hss : x.2.2.ss.take x.2.2.done = ss at g33 hrl hoks htl hT3
    generalize hat : as.take x.2.2.done = at1 at e2 e3 g33 hrl
    have hal1 := g33.1
    refine x_lcL (a := r2) (at1.map V.ref).reverse (fun o k H' => Same H3 H' ∧ ∃ (bs : List Addr) (ss' : List Stp), H' o = some (.lst (bs.map V.ref)) ∧ StpsAt H' bs ss' ∧ BackOf m (ss.drop (ss.length - k)) ss') (fun R q => q) (sq_of e3)
      (fun o ho => ⟨same_upd ho, [], [], upd_same, ⟨rfl, fun i x b h _ => by simp at h⟩, by rw [Nat.sub_zero, List.drop_length]; exact .nil⟩) (fun o k H' _ _ z => sq_of (z.1 _ _ e3)) (fun x => rfl) ?_ ?_
    · rintro o k z H4 ho hz ⟨s4, bs, ss', hO, hst, hB⟩
      have hk : k < ss.length := by
        have := (List.getElem?_eq_some_iff.mp hz).1
        omega
      rw [List.getElem?_reverse (by rw [List.length_map]; omega), List.length_map] at hz
      obtain ⟨b, hb, rfl⟩ := map_getR hz
      obtain ⟨st, hs1, hs2⟩ := g33.get hb
      walk_at "x"
      refine x_fldR (s4 _ _ h13) vc.cl vc.o vaF_o ?_
      walk_at "x"
      refine ⟨b, st, m, x.2.2.c, x.2.2.i, rfl, hs2.tups (Tups.same s4), hoks st (List.mem_of_getElem? hs1), m2, m9, fun b' s' H5 hb' s5 hs' => ?_⟩
      have hO3 := s5 _ _ hO
      have hl : bs.length = k := by
        rw [hst.1, hB.len, List.length_drop]
        omega
      have hT : Tups H4 (upd H5 o (.lst (bs.map V.ref ++ [V.ref b']))) := (Tups.same s5).put (no_tupL hO3)
      have hT2 : Tups H5 (upd H5 o (.lst (bs.map V.ref ++ [V.ref b']))) := (Tups.refl H5).put (no_tupL hO3)
      refine ⟨_, hO3, lt_line (by rw [List.length_map]; omega), Same.put (s4.trans s5) ho, bs ++ [b'], ss' ++ [s'], by rw [upd_same, List.map_append]; rfl, (hst.tups hT).snoc (hs'.tups hT2), ?_⟩
      have ed : ss.drop (ss.length - (k + 1)) = st :: ss.drop (ss.length - k) := by
        have hlt : ss.length - (k + 1) < ss.length := by omega
        rw [List.drop_eq_getElem_cons hlt]
        have e1 : ss.length - (k + 1) + 1 = ss.length - k := by omega
        have e2 : at1.length - 1 - k = ss.length - (k + 1) := by omega
        rw [e2, List.getElem?_eq_getElem hlt] at hs1
        rw [e1, Option.some.inj hs1]
      rw [ed]
      exact .cons hb' hB
    · rintro o H4 ho ⟨s4, bs, ss', hO, hst, hB⟩
      rw [hrl, Nat.sub_self, List.drop_zero] at hB
      have s24 := s3.trans s4
      have hV4 := hV2.same s24
      obtain ⟨dx4, h14⟩ := hV4.ob
      have pr : PrOk ss' m x.2.2.c x.2.2.i := ⟨hok.pr.m2, hok.pr.m9, hok.pr.c1, hok.pr.c60, hok.pr.i60, by rw [hB.len]; omega, hB.oks m2 hoks⟩
      walk_at "x"
      refine ⟨_, CL, v, M, D, x.2.1, o, AV, m, nt, mem, x.2.2, bs, ss', rfl, ⟨dx4, h14⟩, vc, hV4.mm, hV4.mok, hV4.av, hV4.ln x hx, hok, sq_of hO, hst, pr, fun H5 k5 hM5 => ?_⟩
      have vM : v ≠ M := ne_of h14 hV4.mm (by intro z; cases z)
      have DM : D ≠ M := ne_of hV4.dd hV4.mm (by intro z; cases z)
      have h15 := k5 _ _ h14 vM
      have e5 := k5 _ _ (s24 _ _ e2) hrM
      have d5 := k5 _ _ hV4.dd DM
      walk_at "x"
      refine x_delD ?_
      walk_at "x"
      refine x_fldR h15 vc.cl vc.l vaF_l ?_
      walk_at "x"
      refine ⟨D, _, Sum.inl (x.1 : Int), rfl, d5, (openAt_mem hto).2, ?_, ?_⟩
      · rw [valV_dct, find_uniq hV.asc hx]; rfl
      rw [dropL_dct]
      have e6 : (upd H5 D (.dK (dctOf (dropL ls x.1)))) r = _ := (upd_ne hrD).trans e5
      have s14 := (s1.trans s2).trans s24
      have kk : KeepS (fun b => b = M ∨ b = D) H (upd H5 D (.dK (dctOf (dropL ls x.1)))) := fun b o e hb => by
        rw [upd_ne (fun z => hb (.inr z))]
        exact k5 _ _ (s14 _ _ e) (fun z => hb (.inl z))
      have hres := perf_mem hV4.mok hok pr
      walk_at "x"
      refine x_len (sq_of e6) ?_
      have hn : at1.length = x.2.2.done := by omega
      rw [List.length_map, hn]
      refine hT3 x hto hb _ ss' (by rw [hss]; exact hB) ?_ kk
      have hmm := hV.mm
      have hdd := hV.dd
      have hl2 : (recM m mem x.2.2 ss').length = mem.length := putM_len
      obtain ⟨dx0, h10⟩ := hV.ob
      refine ⟨⟨dx0, kk _ _ h10 ?_⟩, vc, ?_, upd_same, hV.av, fun y hy => ?_, ?_, fun y hy => hV.nv y (dropL_mem hy).1, ?_, fun y hy => hV.lt y (dropL_mem hy).1, by rw [hl2]; exact hres, fun y hy => by rw [hl2]; exact hV.ok y (dropL_mem hy).1, m2, m9, by rw [hl2]; exact hV.n1, by rw [hl2]; exact hV.n2⟩
      · rintro (e | e)
        · exact ne_of h10 hmm (by intro z; cases z) e
        · exact ne_of h10 hdd (by intro z; cases z) e
      · rw [upd_ne DM.symm]; exact hM5
      · refine (hV.ln y (dropL_mem hy).1).keep kk fun b hb => ?_
        obtain ⟨_, _, _, _, _, k1, _⟩ := (hV.ln y (dropL_mem hy).1).at_
        rcases hb with rfl | rfl
        · exact ⟨ne_of hmm k1 (by intro z; cases z), .inl hV.av, fun xs e => by rw [hmm] at e; cases e⟩
        · exact ⟨ne_of hdd k1 (by intro z; cases z), .inr (fun xs e => by rw [hdd] at e; cases e), fun xs e => by rw [hdd] at e; cases e⟩
      · exact (List.filter_sublist.map _).nodup hV.inj
      · exact hV.asc.sublist (List.filter_sublist.map _)


end
end Br
namespace Br
open PySem PySem.Spec PyProof.Rows L2
local macro_rules | `(tactic| walk_at "x1") => `(tactic| (with_reducible first
  | refine Br.x_seq ?_ | refine Br.x_set ?_ | refine Br.x_asg ?_ | refine Br.x_next ?_ | refine Br.x_ret ?_ | refine Br.x_retN ?_ | refine Br.x_drop ?_ | refine Br.x_if ?_ | refine Br.x_brk ?_ | refine Br.x_cont ?_
  | refine Br.x_c ?_ | refine Br.x_op ?_ | refine Br.x_un ?_ | refine Br.x_I0 ?_ | refine Br.x_U ?_ | refine Br.x_EqI ?_ | refine Br.x_NeI ?_ | refine Br.x_EqB ?_ | refine Br.x_iN ?_ | refine Br.x_int1 ?_ | refine Br.x_min2 ?_ | refine Br.x_max2 ?_ | refine Br.x_nN ?_ | refine Br.x_ifE ?_
  | refine Br.x_test (b := ()) ?_ | refine Br.x_tB ?_ | refine Br.x_bl ?_ | refine Br.x_and ?_ | refine Br.x_or ?_ | refine Br.x_not ?_ | refine Br.x_andV ?_ | refine Br.x_orV ?_ | refine Br.x_notV ?_ | refine Br.x_blP ?_
  | refine Br.x_nil ?_ | refine Br.x_cons ?_ | refine Br.x_call ?_ | refine Br.x_CB ?_ | refine Br.x_BM ?_ | refine Br.x_tup ?_ | refine Br.x_lst ?_ | refine Br.x_chain ?_ | refine Br.x_par ?_ | refine Br.x_gSub ?_ | refine Br.x_gName ?_ | refine Br.x_fld ?_ | refine Br.x_fldS ?_ | refine Br.x_match ?_ | refine Br.x_else ?_ | refine Br.x_noCase ?_))
local macro_rules | `(tactic| walk_at "xv") => `(tactic| ((with_reducible refine' Br.x_var ?hvar ?_); (case hvar => rfl)))
local macro_rules | `(tactic| walk_at "xd") => `(tactic| (dsimp only [List.set_cons_zero, List.set_cons_succ, List.cons_append, List.nil_append, List.append_nil]))
local macro_rules | `(tactic| walk_at "xi") => `(tactic| ((with_reducible refine Br.x_I ?hside ?_); (case hside => first | exact Br.mul_r (by decide) (by decide) | exact Br.mul_l (by decide) (by decide) | exact Br.mul_l (by omega) (by omega) | exact Br.mul_r (by omega) (by omega) | (show (0 : Int) < _; first | decide | omega) | exact ⟨by decide, by decide⟩ | exact ⟨by omega, by omega⟩ | exact ⟨by decide, by decide, by decide⟩)))
local macro_rules | `(tactic| walk_at "x") => `(tactic| (repeat (first | walk_at "x1" | walk_at "xv" | walk_at "xi" | walk_at "xd")))
local macro_rules | `(tactic| walk_at "start") => `(tactic| (simp only [L2.start, List.map_cons, List.map_nil, List.length_cons, List.length_nil, Nat.reduceAdd, Nat.reduceSub, List.replicate, List.cons_append, List.nil_append, List.append_nil]))
local macro_rules | `(tactic| walk_at "isi") => `(tactic| first
  | refine Br.x_isi (b := true) (.base (.int _)) (by decide +kernel) ?_ | refine Br.x_isi (b := false) (.base (.int _)) (by decide +kernel) ?_
  | refine Br.x_isi (b := true) (.base (.bl _)) (by decide +kernel) ?_ | refine Br.x_isi (b := false) (.base (.bl _)) (by decide +kernel) ?_
  | refine Br.x_isi (b := false) (.base .non) (by decide +kernel) ?_
  | refine Br.x_isi (b := true) (.base (.str _)) (by decide +kernel) ?_ | refine Br.x_isi (b := false) (.base (.str _)) (by decide +kernel) ?_
  | refine Br.x_isi (b := true) (.base (.tup (by assumption))) (by decide +kernel) ?_ | refine Br.x_isi (b := false) (.base (.tup (by assumption))) (by decide +kernel) ?_
  | refine Br.x_isi (b := true) (.base (.lst (by assumption))) (by decide +kernel) ?_ | refine Br.x_isi (b := false) (.base (.lst (by assumption))) (by decide +kernel) ?_)
local macro_rules | `(tactic| walk_at "f") => `(tactic| (refine L2.iteF ?_; walk_at "x"))
local macro_rules | `(tactic| walk_at "t") => `(tactic| (refine L2.iteT ?_; walk_at "x"))
local macro_rules | `(tactic| walk_at "is") => `(tactic| (walk_at "isi"; walk_at "x"))
local macro_rules | `(tactic| walk_at "xb") => `(tactic| (simp only [Br.bindS, List.set_cons_zero, List.set_cons_succ]; walk_at "x"))

section
variable {P : Program} {w : World} {K : PySem.W.Frag} {mg : Str → Option Value} {base : Heap}

open Br.F

def sp_Vault_memory (K : PySem.W.Frag) : Sp := fun vs H Q _ => ∃ (CV CL v M D : Addr) (AV : Addr → Prop) (m nt : Nat) (mem : List Int) (ls : Lns), vs = [.ref v] ∧ VaAt K CV CL AV H v M D m nt mem ls ∧ ∀ l, H l = none → Q (.ref l) (upd H l (.lst (mem.map V.int)))
theorem ok_Vault_memory (T : Txt K mg) : FnOk P w K mg base CX0 1 T.a_Vault_memory T.fd_Vault_memory ["self"] (sp_Vault_memory K) := by
  refine T.F_Vault_memory.ok sc_Vault_memory (fun vs H Q E h => ?_) (fun cdv A outer s H vs Q E hr h => ?_)
  · obtain ⟨CV, CL, v, M, D, AV, m, nt, mem, ls, rfl, _⟩ := h
    rfl
  · obtain ⟨CV, CL, v, M, D, AV, m, nt, mem, ls, rfl, hV, q⟩ := h
    obtain ⟨dx, h1⟩ := hV.ob
    refine ⟨_, (pss_one (ps_ret (pe_callTy (T := "list") (r := rListOf K) cr_list_of (by rfl) T.m_list (by decide +kernel) (pa_cons (pe_fld (pv 0) rfl) pa_nil)))), ?_⟩
    walk_at "start"
    walk_at "x"
    refine x_fldR h1 hV.vc.cl hV.vc.m vaF_m ?_
    walk_at "x"
    exact x_listL (sq_of hV.mm) q

theorem perm_asc {xs ys : List Int} (h : ys.Perm xs) (h1 : ys.Pairwise (· ≤ ·)) (h2 : xs.Pairwise (· < ·)) : ys = xs := by
  refine List.Perm.eq_of_pairwise (le := fun a b => a ≤ b) (fun a b _ _ h1 h2 => Int.le_antisymm h1 h2) h1 (h2.imp fun h => Int.le_of_lt h) h

def tksOf (ls : Lns) : List Int := ls.map fun x => (x.1 : Int)
def sp_Vault_open_loans (K : PySem.W.Frag) : Sp := fun vs H Q _ => ∃ (CV CL v M D : Addr) (AV : Addr → Prop) (m nt : Nat) (mem : List Int) (ls : Lns), vs = [.ref v] ∧ VaAt K CV CL AV H v M D m nt mem ls ∧ ls.length < 64 ∧ ∀ l, H l = none → Q (.ref l) (upd H l (.lst ((tksOf ls).map V.int)))
theorem ok_Vault_open_loans (T : Txt K mg) : FnOk P w K mg base CX0 1 T.a_Vault_open_loans T.fd_Vault_open_loans ["self"] (sp_Vault_open_loans K) := by
  refine T.F_Vault_open_loans.ok sc_Vault_open_loans (fun vs H Q E h => ?_) (fun cdv A outer s H vs Q E hr h => ?_)
  · obtain ⟨CV, CL, v, M, D, AV, m, nt, mem, ls, rfl, _⟩ := h
    rfl
  · obtain ⟨CV, CL, v, M, D, AV, m, nt, mem, ls, rfl, hV, h64, q⟩ := h
    obtain ⟨dx, h1⟩ := hV.ob
    refine ⟨_, (pss_one (ps_ret (pe_callB (id := "sorted") (call_sortedDI rfl) (by rfl) T.m_sorted (by decide +kernel) (pa_cons (pe_fld (pv 0) rfl) pa_nil)))), ?_⟩
    walk_at "start"
    walk_at "x"
    refine x_fldR h1 hV.vc.cl hV.vc.l vaF_l ?_
    walk_at "x"
    refine ⟨D, dctOf ls, tksOf ls, rfl, .inl hV.dd, by unfold dctOf tksOf; rw [List.map_map, List.map_map]; rfl, by unfold tksOf; rw [List.length_map]; exact h64, fun ys p hp hs hf => ?_⟩
    have hasc : (tksOf ls).Pairwise (· < ·) := by
      unfold tksOf
      have := hV.asc
      rw [List.pairwise_map] at this ⊢
      exact this.imp fun h => by omega
    rw [perm_asc hp hs hasc]
    exact q p hf

/-- what a vault asks of a memory -/
def memF (xs : List V) (m : Int) : Bool := decide (1 ≤ xs.length ∧ xs.length ≤ 200) && xs.all fun x => isB x m
theorem memF_no {xs : List V} {m : Int} (h : ¬ (1 ≤ xs.length ∧ xs.length ≤ 200)) : memF xs m = false := by unfold memF; rw [decide_eq_false h, Bool.false_and]
theorem memF_yes {xs : List V} {m : Int} (h : 1 ≤ xs.length ∧ xs.length ≤ 200) : memF xs m = xs.all fun x => isB x m := by unfold memF; rw [decide_eq_true h, Bool.true_and]

def sp_is_memory (K : PySem.W.Frag) : Sp := fun vs H Q _ => ∃ (a : Addr) (m : Int) (xs : List V), vs = [.ref a, .int m] ∧
  ((H a = some (.lst xs) ∧ xs.length ≤ 100000 ∧ (∀ x, x ∈ xs → Odd H x) ∧ ∀ H', Same H H' → Q (.bl (memF xs m)) H') ∨ (H a = some (.tup xs) ∧ Q (.bl false) H))
theorem ok_is_memory (T : Txt K mg) : FnOk P w K mg base CX0 3 T.a_is_memory T.fd_is_memory ["memory", "modulus"] (sp_is_memory K) := by
  refine T.F_is_memory.ok sc_is_memory (fun vs H Q E h => ?_) (fun cdv A outer s H vs Q E hr h => ?_)
  · obtain ⟨a, m, xs, rfl, _⟩ := h
    rfl
  · obtain ⟨a, m, xs, rfl, h⟩ := h
    refine ⟨_, (pss_cons (ps_if (PW.pt (pw_or (pt_not (pt_val (pe_callB (id := "isinstance") (r := rIsi K) call_isi (by rfl) T.m_isinstance (by decide +kernel) (pa_cons (pv 0) (pa_cons (pe_bltn (v := .ty "list") (by rfl) T.m_list (by decide +kernel) rfl) pa_nil))))) (pw_or1 (pt_not (pt_chain op_le op_le pe_int (pe_callB (id := "len") (r := rLen K) cr_len (by rfl) T.m_len PySem.boot_len (pa_cons (pv 0) pa_nil)) (pe_glob (v := .int 200) (by rfl) T.c_MOST_CELLS_vault ⟨_, rfl⟩))))))
      (pss_one (ps_ret pe_bl))
      pss_nil)
      (pss_one (ps_ret (pe_call (ok_are_numbers T) hr (by rfl) T.g_are_numbers T.F_are_numbers.kp T.b_are_numbers .nil pass0 (pa_cons (pv 0) (pa_cons (pe_callB (id := "len") (r := rLen K) cr_len (by rfl) T.m_len PySem.boot_len (pa_cons (pv 0) pa_nil)) (pa_cons (pv 1) pa_nil))))))), ?_⟩
    walk_at "start"
    rcases h with ⟨ha, hl, ho, q⟩ | ⟨ha, q⟩
    · walk_at "x"
      walk_at "is"
      walk_at "f"
      refine x_len (sq_of ha) ?_
      walk_at "x"
      refine x_ite (fun h1 => ?_) (fun h1 => ?_)
      · walk_at "x"
        refine x_iteN (fun h2 => ?_) (fun h2 => ?_)
        · walk_at "x"
          rw [memF_no (by omega)] at q
          exact q H (Same.refl _)
        · walk_at "x"
          refine x_len (sq_of ha) ?_
          walk_at "x"
          refine ⟨_, _, _, rfl, .inl ⟨a, xs, rfl, ha, hl, ho, fun H1 s1 => ?_⟩⟩
          rw [memF_yes (by omega)] at q
          rw [decide_eq_true rfl, Bool.true_and]
          exact q H1 s1
      · walk_at "x"
        rw [memF_no (by omega)] at q
        exact q H (Same.refl _)
    · walk_at "x"
      walk_at "is"
      walk_at "t"
      exact q

theorem x_lenSetV {K : PySem.W.Frag} {σ : L2.St} {H : Hp} {Q : VK} {ta : TE} (h : ta σ H fun x H1 => ∃ (l : Addr) (ns : List Int), x = V.ref l ∧ (SqL K H1 l (ns.map V.int) ∨ SqT K H1 l (ns.map V.int)) ∧ ns.length ≤ 4000 ∧ ∀ c : Nat, (c = ns.length ↔ ns.Nodup) → c ≤ ns.length → Q (.int (c : Nat)) H1) : tLenSet K ta σ H Q := h
/-- are these places of a vault -/
def PlsOk (o : Option (List V)) (c n : Nat) : Prop := ∃ ns : List Int, o = some (ns.map V.int) ∧ Mem n c ns ∧ ns.Nodup

def sp_are_places (K : PySem.W.Frag) : Sp := fun vs H Q _ => ∃ (d : Addr) (x : V) (o : Option (List V)) (c n : Nat), vs = [x, .int (c : Int), .int (n : Int)] ∧ NumsAt d H x o ∧ ∀ H' b, Same H H' → (b = true ↔ PlsOk o c n) → Q (.bl b) H'
theorem ok_are_places (T : Txt K mg) : FnOk P w K mg base CX0 3 T.a_are_places T.fd_are_places ["places", "many", "cells"] (sp_are_places K) := by
  refine T.F_are_places.ok sc_are_places (fun vs H Q E h => ?_) (fun cdv A outer s H vs Q E hr h => ?_)
  · obtain ⟨d, x, o, c, n, rfl, _⟩ := h
    rfl
  · obtain ⟨d, x, o, c, n, rfl, hN, q⟩ := h
    refine ⟨_, (pss_one (ps_ret (pe_and (pe_call (ok_are_numbers T) hr (by rfl) T.g_are_numbers T.F_are_numbers.kp T.b_are_numbers .nil pass0 (pa_cons (pv 0) (pa_cons (pv 1) (pa_cons (pv 2) pa_nil)))) (pe_one (pe_cmpR op_eq (pe_lenSetA (by rfl) T.m_len (by rfl) T.m_set (pv 0)) (pv 1) (nomark _)))))), ?_⟩
    walk_at "start"
    walk_at "x"
    refine hN.ask fun H1 s1 => ?_
    cases hb : belF o (c : Int) (n : Int) with
    | false =>
      walk_at "x"
      refine q H1 false s1 ⟨fun z => (by cases z), fun ⟨ns, e, hm, _⟩ => ?_⟩
      rw [e] at hb
      have e2 := hm.odd
      have e3 : belF (some (ns.map V.int)) (c : Int) (n : Int) = true := e2
      rw [e3] at hb; cases hb
    | true =>
      walk_at "x"
      walk_at "t"
      obtain ⟨ns, rfl, hm⟩ := belF_mem hb
      obtain ⟨a, rfl, ha, hn2⟩ : ∃ a, x = .ref a ∧ H a = some (.lst (ns.map V.int)) ∧ ns.length ≤ 200 := by cases hN with | lst l xs h _ hn _ => exact ⟨l, rfl, h, by rw [List.length_map] at hn; exact hn⟩
      refine x_lenSetV ?_
      walk_at "x"
      refine ⟨a, _, rfl, .inl (sq_of (s1 _ _ ha)), by omega, fun k hk _ => ?_⟩
      walk_at "x"
      refine q H1 _ s1 ?_
      have hl := hm.len
      rw [decide_eq_true_iff]
      constructor
      · intro h
        exact ⟨ns, rfl, hm, hk.mp (by omega)⟩
      · rintro ⟨ms, e, _, hnd⟩
        have e := List.map_inj_right (fun a b (h : V.int a = V.int b) => V.int.inj h) |>.mp (Option.some.inj e)
        rw [← e] at hnd
        have := hk.mpr hnd
        omega


/-- what a def that makes an instance leaves -/
def sp_Loan___init (K : PySem.W.Frag) : Sp := fun vs H Q _ => ∃ (a CL dx CP p L P0 G0 : Addr) (as : List Addr) (ss : List Stp) (m c i : Nat) (pl : List Nat) (gv : List Int) (f : Int), vs = [.ref a, .ref p, .ref P0, .ref G0, .int f] ∧ H a = some (.ins CL dx []) ∧ LC K CL ∧ PrAt K CP H p L as ss m c i ∧ H P0 = some (.lst (cInts pl)) ∧ H G0 = some (.lst (gv.map V.int)) ∧
  ∀ (S P G : Addr) (H' : Hp), H S = none → H P = none → H G = none → (∀ b o, H b = some o → b ≠ a → H' b = some o) → H' a = some (.ins CL dx (lnF S P G f 0)) → H' S = some (.lst (as.map V.ref)) → StpsAt H' as ss → H' P = some (.lst (cInts pl)) → H' G = some (.lst (gv.map V.int)) → Q .non H'
theorem ok_Loan___init (T : Txt K mg) : FnOk P w K mg base CX0 1 T.a_Loan___init T.fd_Loan___init ["self", "program", "places", "given", "first"] (sp_Loan___init K) := by
  refine T.F_Loan___init.ok sc_Loan___init (fun vs H Q E h => ?_) (fun cdv A outer s H vs Q E hr h => ?_)
  · obtain ⟨a, CL, dx, CP, p, L, P0, G0, as, ss, m, c, i, pl, gv, f, rfl, _⟩ := h
    rfl
  · obtain ⟨a, CL, dx, CP, p, L, P0, G0, as, ss, m, c, i, pl, gv, f, rfl, ha, lc, hP, hp0, hg0, q⟩ := h
    obtain ⟨dp, h1, hC⟩ := hP.ob
    have hst := hP.st
    have hlst := hP.lst
    have Lna : L ≠ a := ne_of hlst ha (by intro z; cases z)
    have Pna : P0 ≠ a := ne_of hp0 ha (by intro z; cases z)
    have Gna : G0 ≠ a := ne_of hg0 ha (by intro z; cases z)
    refine ⟨_, (pss_cons (ps_fld (pv 0) (pe_callTy (T := "list") (r := rListOf K) cr_list_of (by rfl) T.m_list (by decide +kernel) (pa_cons (pe_fld (pv 1) rfl) pa_nil)) rfl)
      (pss_cons (ps_fld (pv 0) (pe_callTy (T := "list") (r := rListOf K) cr_list_of (by rfl) T.m_list (by decide +kernel) (pa_cons (pv 2) pa_nil)) rfl)
      (pss_cons (ps_fld (pv 0) (pe_callTy (T := "list") (r := rListOf K) cr_list_of (by rfl) T.m_list (by decide +kernel) (pa_cons (pv 3) pa_nil)) rfl)
      (pss_cons (ps_fld (pv 0) (pv 4) rfl)
      (pss_one (ps_fld (pv 0) pe_int rfl)))))), ?_⟩
    walk_at "start"
    walk_at "x"
    refine x_fldR h1 hC.cl hC.s progF_s ?_
    walk_at "x"
    refine x_listL (sq_of hlst) fun S hS => ?_
    have s1 := same_upd (o := .lst (as.map V.ref)) hS
    have e1 : (upd H S (.lst (as.map V.ref))) S = some (.lst (as.map V.ref)) := upd_same
    generalize upd H S (.lst (as.map V.ref)) = H1 at s1 e1
    have Sna : S ≠ a := fun e => by rw [e, ha] at hS; cases hS
    walk_at "x"
    refine ⟨a, CL, dx, _, rfl, s1 _ _ ha, lc.cl, lc.s, by decide, ?_⟩
    have k2 : Keep a H1 (upd H1 a (.ins CL dx (putF "steps" (.ref S) []))) := keep_upd
    have a2 : (upd H1 a (.ins CL dx (putF "steps" (.ref S) []))) a = _ := upd_same
    generalize upd H1 a (.ins CL dx (putF "steps" (.ref S) [])) = H2 at k2 a2
    walk_at "x"
    refine x_listL (sq_of (k2 _ _ (s1 _ _ hp0) Pna)) fun P hP => ?_
    have hP1 : H P = none := by
      cases e : H P with
      | none => rfl
      | some o =>
        by_cases hPa : P = a
        · rw [hPa, a2] at hP; cases hP
        · rw [k2 _ _ (s1 _ _ e) hPa] at hP; cases hP
    have s3 := same_upd (o := .lst (cInts pl)) hP
    have e3 : (upd H2 P (.lst (cInts pl))) P = some (.lst (cInts pl)) := upd_same
    have Pna2 : P ≠ a := fun e => by rw [e, a2] at hP; cases hP
    generalize upd H2 P (.lst (cInts pl)) = H3 at s3 e3
    walk_at "x"
    refine ⟨a, CL, dx, _, rfl, s3 _ _ a2, lc.cl, lc.p, by show 1 < 1000; decide, ?_⟩
    have k4 : Keep a H3 (upd H3 a (.ins CL dx (putF "places" (.ref P) (putF "steps" (.ref S) [])))) := keep_upd
    have a4 : (upd H3 a (.ins CL dx (putF "places" (.ref P) (putF "steps" (.ref S) [])))) a = _ := upd_same
    generalize upd H3 a (.ins CL dx (putF "places" (.ref P) (putF "steps" (.ref S) []))) = H4 at k4 a4
    walk_at "x"
    have kk4 : Keep a H H4 := ((Same.keep s1).trans k2).trans ((Same.keep s3).trans k4)
    refine x_listL (sq_of (kk4 _ _ hg0 Gna)) fun G hG => ?_
    have hG1 : H G = none := by
      cases e : H G with
      | none => rfl
      | some o =>
        by_cases hGa : G = a
        · rw [hGa, a4] at hG; cases hG
        · rw [kk4 _ _ e hGa] at hG; cases hG
    have s5 := same_upd (o := .lst (gv.map V.int)) hG
    have e5 : (upd H4 G (.lst (gv.map V.int))) G = some (.lst (gv.map V.int)) := upd_same
    have Gna2 : G ≠ a := fun e => by rw [e, a4] at hG; cases hG
    generalize upd H4 G (.lst (gv.map V.int)) = H5 at s5 e5
    walk_at "x"
    refine ⟨a, CL, dx, _, rfl, s5 _ _ a4, lc.cl, lc.g, by show 2 < 1000; decide, ?_⟩
    walk_at "x"
    refine ⟨a, CL, dx, _, rfl, upd_same, lc.cl, lc.f, by show 3 < 1000; decide, ?_⟩
    walk_at "x"
    refine ⟨a, CL, dx, _, rfl, upd_same, lc.cl, lc.d, by show 4 < 1000; decide, ?_⟩
    rw [lnF_mk]
    have kk : Keep a H (upd (upd (upd H5 a (.ins CL dx (putF "given" (.ref G) (putF "places" (.ref P) (putF "steps" (.ref S) []))))) a (.ins CL dx (putF "first" (.int f) (putF "given" (.ref G) (putF "places" (.ref P) (putF "steps" (.ref S) [])))))) a (.ins CL dx (lnF S P G f 0))) := (kk4.trans (Same.keep s5)).trans ((keep_upd.trans keep_upd).trans keep_upd)
    have k5 : Keep a H5 (upd (upd (upd H5 a (.ins CL dx (putF "given" (.ref G) (putF "places" (.ref P) (putF "steps" (.ref S) []))))) a (.ins CL dx (putF "first" (.int f) (putF "given" (.ref G) (putF "places" (.ref P) (putF "steps" (.ref S) [])))))) a (.ins CL dx (lnF S P G f 0))) := ((keep_upd.trans keep_upd).trans keep_upd)
    refine q S P G _ hS hP1 hG1 (fun b o e n => kk b o e n) upd_same (k5 _ _ ((s5 _ _ (k4 _ _ (s3 _ _ (k2 _ _ e1 Sna)) Sna))) Sna) (hst.tups fun b xs e => kk _ _ e (ne_of e ha (by intro z; cases z))) (k5 _ _ (s5 _ _ (k4 _ _ e3 Pna2)) Pna2) (k5 _ _ e5 Gna2)


end
end Br
namespace Br
open PySem PySem.Spec PyProof.Rows L2
local macro_rules | `(tactic| walk_at "x1") => `(tactic| (with_reducible first
  | refine Br.x_seq ?_ | refine Br.x_set ?_ | refine Br.x_asg ?_ | refine Br.x_next ?_ | refine Br.x_ret ?_ | refine Br.x_retN ?_ | refine Br.x_drop ?_ | refine Br.x_if ?_ | refine Br.x_brk ?_ | refine Br.x_cont ?_
  | refine Br.x_c ?_ | refine Br.x_op ?_ | refine Br.x_un ?_ | refine Br.x_I0 ?_ | refine Br.x_U ?_ | refine Br.x_EqI ?_ | refine Br.x_NeI ?_ | refine Br.x_EqB ?_ | refine Br.x_iN ?_ | refine Br.x_int1 ?_ | refine Br.x_min2 ?_ | refine Br.x_max2 ?_ | refine Br.x_nN ?_ | refine Br.x_ifE ?_
  | refine Br.x_test (b := ()) ?_ | refine Br.x_tB ?_ | refine Br.x_bl ?_ | refine Br.x_and ?_ | refine Br.x_or ?_ | refine Br.x_not ?_ | refine Br.x_andV ?_ | refine Br.x_orV ?_ | refine Br.x_notV ?_ | refine Br.x_blP ?_
  | refine Br.x_nil ?_ | refine Br.x_cons ?_ | refine Br.x_call ?_ | refine Br.x_CB ?_ | refine Br.x_BM ?_ | refine Br.x_tup ?_ | refine Br.x_lst ?_ | refine Br.x_chain ?_ | refine Br.x_par ?_ | refine Br.x_gSub ?_ | refine Br.x_gName ?_ | refine Br.x_fld ?_ | refine Br.x_fldS ?_ | refine Br.x_match ?_ | refine Br.x_else ?_ | refine Br.x_noCase ?_))
local macro_rules | `(tactic| walk_at "xv") => `(tactic| ((with_reducible refine' Br.x_var ?hvar ?_); (case hvar => rfl)))
local macro_rules | `(tactic| walk_at "xd") => `(tactic| (dsimp only [List.set_cons_zero, List.set_cons_succ, List.cons_append, List.nil_append, List.append_nil]))
local macro_rules | `(tactic| walk_at "xi") => `(tactic| ((with_reducible refine Br.x_I ?hside ?_); (case hside => first | exact Br.mul_r (by decide) (by decide) | exact Br.mul_l (by decide) (by decide) | exact Br.mul_l (by omega) (by omega) | exact Br.mul_r (by omega) (by omega) | (show (0 : Int) < _; first | decide | omega) | exact ⟨by decide, by decide⟩ | exact ⟨by omega, by omega⟩ | exact ⟨by decide, by decide, by decide⟩)))
local macro_rules | `(tactic| walk_at "x") => `(tactic| (repeat (first | walk_at "x1" | walk_at "xv" | walk_at "xi" | walk_at "xd")))
local macro_rules | `(tactic| walk_at "start") => `(tactic| (simp only [L2.start, List.map_cons, List.map_nil, List.length_cons, List.length_nil, Nat.reduceAdd, Nat.reduceSub, List.replicate, List.cons_append, List.nil_append, List.append_nil]))
local macro_rules | `(tactic| walk_at "isi") => `(tactic| first
  | refine Br.x_isi (b := true) (.base (.int _)) (by decide +kernel) ?_ | refine Br.x_isi (b := false) (.base (.int _)) (by decide +kernel) ?_
  | refine Br.x_isi (b := true) (.base (.bl _)) (by decide +kernel) ?_ | refine Br.x_isi (b := false) (.base (.bl _)) (by decide +kernel) ?_
  | refine Br.x_isi (b := false) (.base .non) (by decide +kernel) ?_
  | refine Br.x_isi (b := true) (.base (.str _)) (by decide +kernel) ?_ | refine Br.x_isi (b := false) (.base (.str _)) (by decide +kernel) ?_
  | refine Br.x_isi (b := true) (.base (.tup (by assumption))) (by decide +kernel) ?_ | refine Br.x_isi (b := false) (.base (.tup (by assumption))) (by decide +kernel) ?_
  | refine Br.x_isi (b := true) (.base (.lst (by assumption))) (by decide +kernel) ?_ | refine Br.x_isi (b := false) (.base (.lst (by assumption))) (by decide +kernel) ?_)
local macro_rules | `(tactic| walk_at "f") => `(tactic| (refine L2.iteF ?_; walk_at "x"))
local macro_rules | `(tactic| walk_at "t") => `(tactic| (refine L2.iteT ?_; walk_at "x"))
local macro_rules | `(tactic| walk_at "is") => `(tactic| (walk_at "isi"; walk_at "x"))
local macro_rules | `(tactic| walk_at "xb") => `(tactic| (simp only [Br.bindS, List.set_cons_zero, List.set_cons_succ]; walk_at "x"))

section
variable {P : Program} {w : World} {K : PySem.W.Frag} {mg : Str → Option Value} {base : Heap}

open Br.F
theorem va_ne_ln {M D S P G : Addr} {m nt f d : Int} (e : vaF M m D nt = lnF S P G f d) : False := by
  have h := (Prod.mk.inj (List.cons.inj e).1).1
  exact absurd h (by decide)
theorem x_dnewK {σ : L2.St} {H : Hp} {Q : VK} (h : ∀ p, H p = none → Q (.ref p) (upd H p (.dK []))) : tDNewK σ H Q := h
theorem x_dputS {td ty tv : TE} {σ : L2.St} {H : Hp} {D : Ends} (h : tv σ H fun v H1 => td σ H1 fun x H2 => ty σ H2 fun y H3 => ∃ a H4, x = .ref a ∧ DPut H3 a y v H4 ∧ D.nx σ H4) : sDPut td ty tv D σ H := h
/-- making an instance within a try -/
def tMakeX (C : Addr) (sp : Sp) (E : L2.St → XK) (t : TA) : TE := fun σ H Q => t σ H fun vs H1 => ∀ x dx, H1 x = Option.none → H1 dx = Option.none → dx ≠ x →
  sp (V.ref x :: vs) (upd (upd H1 dx (.own x)) x (.ins C dx [])) (fun v H2 => v = .non ∧ Q (.ref x) H2) (E σ)
theorem x_makeX {C : Addr} {sp : Sp} {E : L2.St → XK} {t : TA} {σ : L2.St} {H : Hp} {Q : VK} (h : t σ H fun vs H1 => ∀ x dx, H1 x = Option.none → H1 dx = Option.none → dx ≠ x →
  sp (V.ref x :: vs) (upd (upd H1 dx (.own x)) x (.ins C dx [])) (fun v H2 => v = .non ∧ Q (.ref x) H2) (E σ)) : tMakeX C sp E t σ H Q := h
theorem run_makeS {X : Cx} {CX : CXT} {k : Nat} {f C : Addr} {fd : FuncData} {ps : List Str} {sp : Sp} {E : L2.St → XK} {pins : List (Addr × Obj)} {σ : L2.St} {H : Hp} {s : Shared} {Q : VK} {us : List Value} {vs : List V} (M : Mk X.K C f) (F : FnOk X.prog X.w X.K X.mg X.base CX k f fd ps sp) (hr : Room (k + 1) X.A) (hb : Binds X.K fd ps []) (hx : PassesAt CX X σ (E σ))
    (I : Inv X pins σ H s) (r : Vals vs us)
    (h : ∀ x dx, H x = none → H dx = none → dx ≠ x → sp (.ref x :: vs) (upd (upd H dx (.own x)) x (.ins C dx [])) (fun v H2 => v = .non ∧ Q (.ref x) H2) (E σ)) :
    wpAny (model X.prog X.w) X.A (call (.ref C) us) (EP X pins σ Q) X.xe s := by
  have hq := h (s.heap.objs.size + 1) s.heap.objs.size (I.hok.fresh (Nat.le_succ _)) (I.hok.fresh (Nat.le_refl _)) (Nat.ne_of_lt (Nat.lt_succ_self _))
  have I2 := Inv.made (C := C) I
  have r2 : Vals (V.ref (s.heap.objs.size + 1) :: vs) (Value.ref (s.heap.objs.size + 1) :: us) := .cons rfl r
  have hl : (Value.ref (s.heap.objs.size + 1) :: us).length = ps.length := by
    have e := r2.length
    rw [F.len _ _ _ _ hq] at e
    exact e.symm
  have b := hb _ (Value.ref (s.heap.objs.size + 1) :: us) I2.kIn (by rw [List.append_nil]; exact hl)
  rw [List.append_nil] at b
  refine wpAny_call (make_map (f := f) I.kIn M.makes M.init (beq_iff_eq.mp M.fn) (codeAny_mono (F.run _ X.stack _ _ ⟨Value.ref (s.heap.objs.size + 1) :: us, []⟩ (Value.ref (s.heap.objs.size + 1) :: us) _ _ (E σ) (hr.make C us [])
    (I2.env0.make C us []) b r2 hq) fun r s' hq' => ?_))
  cases r with
  | error e => exact hx pins _ _ e s' I2 hq'
  | ok fl =>
    cases fl with
    | ret u =>
      obtain ⟨v, H', I3, rv, ev, q3⟩ := I2.after hq'
      subst ev
      exact ⟨rv, ⟨V.ref (s.heap.objs.size + 1), H', I3, rfl, q3⟩⟩
    | next => exact False.elim hq'
    | brk => exact False.elim hq'
    | cont => exact False.elim hq'
theorem pe_makeX {X : Cx} {CX : CXT} {k : Nat} {f C : Addr} {fd : FuncData} {ps : List Str} {sp : Sp} {E : L2.St → XK} {x : Str} {p pos : Pos} {e : Expr} {es : List Expr} {t : TA} (M : Mk X.K C f) (F : FnOk X.prog X.w X.K X.mg X.base CX k f fd ps sp) (hr : Room (k + 1) X.A) (hg : Gl X x) (hm : X.mg x = some (.ref C)) (hb : Binds X.K fd ps []) (hx : ∀ σ, PassesAt CX X σ (E σ))
    (ha : PA X (e :: es) t) (hdb : (x == ("__debug__" : Str)) = false := by decide) (he : starEach (e :: es) X.env = (false, eval e X.env) :: starEach es X.env := by rfl) (hpl : (backTo pos (starEach es X.env)).any (·.1) = false := by rfl) :
    PE X (.Call (.Name x p) (e :: es) [] pos) (tMakeX C sp E t) := by
  refine ⟨fun pins s σ H Q I h => ?_⟩
  refine wpAny_Call_Name_kw (ld_glob I hg hm ?_ hdb)
  refine PySem.W.callWith_K (h₀ := X.base) I.ok.mod.kin M.kp (thn (ha.run pos pins s σ H _ I h) fun us s1 ⟨vs, H1, I1, r, q⟩ => ⟨I1.kIn, ?_⟩) he hpl
  exact run_makeS M F hr hb (hx σ) I1 r q
theorem memF_get {xs : List V} {m : Nat} (h : memF xs (m : Int) = true) : ∃ mem : List Int, xs = mem.map V.int ∧ Mem m mem.length mem ∧ 1 ≤ mem.length ∧ mem.length ≤ 200 := by
  unfold memF at h
  rw [Bool.and_eq_true, decide_eq_true_iff] at h
  have : belF (some xs) (xs.length : Int) (m : Int) = true := by
    show (decide ((xs.length : Int) = (xs.length : Int)) && xs.all fun x => isB x (m : Int)) = true
    rw [decide_eq_true rfl, Bool.true_and]
    exact h.2
  obtain ⟨ns, e, hm⟩ := belF_mem this
  cases e
  have hl := h.1
  rw [List.length_map] at hl hm
  exact ⟨ns, rfl, hm, hl⟩
theorem pls_get {o : Option (List V)} {c n : Nat} (h : PlsOk o c n) : ∃ pl : List Nat, o = some (cInts pl) ∧ pl.length = c ∧ pl.Nodup ∧ ∀ k, k ∈ pl → k < n := by
  obtain ⟨ns, rfl, hm, hnd⟩ := h
  have hr := hm.2
  have e : ns = (ns.map Int.toNat).map fun (k : Nat) => (k : Int) := by
    rw [List.map_map]
    refine (List.map_id ns).symm.trans (List.map_congr_left fun z hz => ?_)
    have := hr z hz
    show z = ((z.toNat : Nat) : Int)
    omega
  refine ⟨ns.map Int.toNat, by rw [cInts_map, ← e], by rw [List.length_map]; exact hm.len, ?_, fun k hk => ?_⟩
  · rw [e] at hnd
    unfold List.Nodup at hnd ⊢
    rw [List.pairwise_map] at hnd
    exact hnd.imp fun h e => h (by omega)
  · obtain ⟨z, hz, rfl⟩ := List.mem_map.mp hk
    have := hr z hz
    omega

def sp_Vault___init (CM : Addr) (K : PySem.W.Frag) : Sp := fun vs H Q E => ∃ (v CV dx a : Addr) (y : V) (xs : List V), vs = [.ref v, .ref a, y] ∧ H v = some (.ins CV dx []) ∧ VC K CV ∧ Odd H y ∧
  (((isB y 1000000001 && !isB y 2) = false ∧ E (.ref CM) none H) ∨
  (∃ m : Nat, y = .int (m : Int) ∧ 2 ≤ m ∧ m ≤ 1000000000 ∧ ((H a = some (.tup xs) ∧ E (.ref CM) none H) ∨
    (H a = some (.lst xs) ∧ xs.length ≤ 100000 ∧ (∀ x, x ∈ xs → Odd H x) ∧ (memF xs (m : Int) = false → ∀ H', Same H H' → E (.ref CM) none H') ∧
      (∀ mem : List Int, xs = mem.map V.int → Mem m mem.length mem → 1 ≤ mem.length → mem.length ≤ 200 → ∀ (M D : Addr) (H' : Hp), H M = none → H D = none → (∀ b o, H b = some o → b ≠ v → H' b = some o) → (∀ CL (AV : Addr → Prop), AV M → VaAt K CV CL AV H' v M D m 0 mem []) → Q .non H')))))
theorem ok_Vault___init (T : Txt K mg) : FnOk P w K mg base (L2.CX P w) 4 T.a_Vault___init T.fd_Vault___init ["self", "memory", "modulus"] (sp_Vault___init T.E_BadMemory K) := by
  refine T.F_Vault___init.okX sc_Vault___init (fun vs H Q E h => ?_) (fun cdv A outer s H vs Q E hr h => ?_)
  · obtain ⟨v, CV, dx, a, y, xs, rfl, _⟩ := h
    rfl
  · obtain ⟨v, CV, dx, a, y, xs, rfl, hv, vc, hy, h⟩ := h
    refine ⟨_, (pss_cons (ps_if (pt_not (pt_val (pe_call (ok_is_modulus T) (hr.mono (by decide)) (by rfl) T.g_is_modulus T.F_is_modulus.kp T.b_is_modulus .nil pass0 (pa_cons (pv 2) pa_nil))))
      (pss_one (ps_raise rfl (takes_of rfl rfl rfl rfl) (pmk_own PySem.F.excBase_ValueError T.xE_BadMemory T.gE_BadMemory T.kE_BadMemory (raises_own T.bE_BadMemory T.tE_BadMemory) (by exact rfl))))
      pss_nil)
      (pss_cons (ps_if (pt_not (pt_val (pe_call (ok_is_memory T) hr (by rfl) T.g_is_memory T.F_is_memory.kp T.b_is_memory .nil pass0 (pa_cons (pv 1) (pa_cons (pv 2) pa_nil)))))
      (pss_one (ps_raise rfl (takes_of rfl rfl rfl rfl) (SkE.pmk_own1 PySem.F.excBase_ValueError T.xE_BadMemory T.gE_BadMemory T.kE_BadMemory (raises_own T.bE_BadMemory T.tE_BadMemory) (by exact rfl) (pe_joined (PJ.cons pe_str (PJ.cons (pe_fmt (pe_glob (v := .int 200) (by rfl) T.c_MOST_CELLS_vault ⟨_, rfl⟩)) (PJ.cons pe_str PJ.nil)))))))
      pss_nil)
      (PSs.nox (pss_cons (ps_fld (pv 0) (pe_callTy (T := "list") (r := rListOf K) cr_list_of (by rfl) T.m_list (by decide +kernel) (pa_cons (pv 1) pa_nil)) rfl)
      (pss_cons (ps_fld (pv 0) (pv 2) rfl)
      (pss_cons (ps_fld (pv 0) pe_dnewK rfl)
      (pss_one (ps_fld (pv 0) pe_int rfl)))))))), ?_⟩
    walk_at "start"
    walk_at "x"
    refine ⟨_, rfl, hy, ?_⟩
    rcases h with ⟨h0, q⟩ | ⟨m, rfl, m2, m9, h⟩
    · rw [h0]
      walk_at "x"
      walk_at "t"
      exact q
    have e1 : isB (.int (m : Int)) 1000000001 = true := isB_int (by omega) (by omega)
    have e2 : isB (.int (m : Int)) 2 = false := by show (decide (0 ≤ (m : Int)) && decide ((m : Int) < 2)) = false; rw [decide_eq_false (show ¬ (m : Int) < 2 by omega), Bool.and_false]
    rw [e1, e2]
    walk_at "x"
    walk_at "f"
    rcases h with ⟨ha, q⟩ | ⟨ha, hl, ho, q0, q⟩
    · refine ⟨a, m, xs, rfl, .inr ⟨ha, ?_⟩⟩
      walk_at "x"
      walk_at "t"
      refine ⟨_, rfl, by show (Str.empty ++ _).length ≤ _; rw [Str.length_append]; exact Nat.le_of_ble_eq_true rfl, ?_⟩
      refine x_fmt ?_
      walk_at "x"
      refine .inr ⟨_, rfl, log_nat (n := 200) (by decide), ⟨_, rfl, Nat.le_of_ble_eq_true rfl, _, rfl, Nat.le_of_ble_eq_true rfl, q⟩⟩
    refine ⟨a, m, xs, rfl, .inl ⟨ha, hl, ho, fun H1 s1 => ?_⟩⟩
    walk_at "x"
    refine x_iteBN (fun h0 => ?_) (fun h0 => ?_)
    · refine ⟨_, rfl, by show (Str.empty ++ _).length ≤ _; rw [Str.length_append]; exact Nat.le_of_ble_eq_true rfl, ?_⟩
      refine x_fmt ?_
      walk_at "x"
      refine .inr ⟨_, rfl, log_nat (n := 200) (by decide), ⟨_, rfl, Nat.le_of_ble_eq_true rfl, _, rfl, Nat.le_of_ble_eq_true rfl, q0 h0 H1 s1⟩⟩
    obtain ⟨mem, rfl, hm, n1, n2⟩ := memF_get h0
    have q := q mem rfl hm n1 n2
    have ana : a ≠ v := ne_of ha hv (by intro z; cases z)
    walk_at "x"
    refine x_listL (sq_of (s1 _ _ ha)) fun M hM => ?_
    have s2 := same_upd (o := .lst (mem.map V.int)) hM
    have eM : (upd H1 M (.lst (mem.map V.int))) M = some (.lst (mem.map V.int)) := upd_same
    generalize upd H1 M (.lst (mem.map V.int)) = H2 at s2 eM
    have s12 := s1.trans s2
    have hv2 := s12 _ _ hv
    have Mv : M ≠ v := ne_of eM hv2 (by intro z; cases z)
    walk_at "x"
    refine ⟨v, CV, dx, _, rfl, hv2, vc.cl, vc.m, by decide, ?_⟩
    walk_at "x"
    refine ⟨v, CV, dx, _, rfl, upd_same, vc.cl, vc.o, by show 1 < 1000; decide, ?_⟩
    have k3 : Keep v H2 (upd (upd H2 v (.ins CV dx (putF "_memory" (.ref M) []))) v (.ins CV dx (putF "_modulus" (.int (m : Int)) (putF "_memory" (.ref M) [])))) := keep_upd.trans keep_upd
    have v3 : (upd (upd H2 v (.ins CV dx (putF "_memory" (.ref M) []))) v (.ins CV dx (putF "_modulus" (.int (m : Int)) (putF "_memory" (.ref M) [])))) v = _ := upd_same
    generalize upd (upd H2 v (.ins CV dx (putF "_memory" (.ref M) []))) v (.ins CV dx (putF "_modulus" (.int (m : Int)) (putF "_memory" (.ref M) []))) = H3 at k3 v3
    walk_at "x"
    refine x_dnewK fun D hD => ?_
    have hD0 : H D = none := by
      cases e : H D with
      | none => rfl
      | some o =>
        by_cases hDv : D = v
        · rw [hDv, v3] at hD; cases hD
        · rw [k3 _ _ (s12 _ _ e) hDv] at hD; cases hD
    have s4 := same_upd (o := .dK []) hD
    have eD : (upd H3 D (.dK [])) D = some (.dK []) := upd_same
    generalize upd H3 D (.dK []) = H4 at s4 eD
    have v4 := s4 _ _ v3
    have Dv : D ≠ v := ne_of eD v4 (by intro z; cases z)
    walk_at "x"
    refine ⟨v, CV, dx, _, rfl, v4, vc.cl, vc.l, by show 2 < 1000; decide, ?_⟩
    walk_at "x"
    refine ⟨v, CV, dx, _, rfl, upd_same, vc.cl, vc.t, by show 3 < 1000; decide, ?_⟩
    rw [vaF_mk]
    have k5 : Keep v H4 (upd (upd H4 v (.ins CV dx (putF "_loans" (.ref D) (putF "_modulus" (.int (m : Int)) (putF "_memory" (.ref M) []))))) v (.ins CV dx (vaF M m D 0))) := keep_upd.trans keep_upd
    refine q M D _ (s1.free hM) hD0 (fun b o e n => k5 _ _ (s4 _ _ (k3 _ _ (s12 _ _ e) n)) n) fun CL AV hav => ?_
    exact ⟨⟨dx, upd_same⟩, vc, k5 _ _ (s4 _ _ (k3 _ _ eM Mv)) Mv, k5 _ _ eD Dv, hav, fun x hx => by (cases hx), .nil, fun x hx => by (cases hx), .nil, fun x hx => by (cases hx), hm, fun x hx => by (cases hx), m2, m9, n1, n2⟩


def sp_Vault_lend (CV CL CP CS CM : Addr) (K : PySem.W.Frag) : Sp := fun vs H Q E => ∃ (d v M D p L : Addr) (x1 x2 : V) (o1 o2 : Option (List V)) (AV : Addr → Prop) (m m' nt c i : Nat) (mem : List Int) (ls : Lns) (as : List Addr) (ss : List Stp), vs = [.ref v, .ref p, x1, x2] ∧ VaAt K CV CL AV H v M D m nt mem ls ∧ LC K CL ∧ PrAt K CP H p L as ss m' c i ∧ PrOk ss m' c i ∧
  NumsAt d H x1 o1 ∧ NumsAt d H x2 o2 ∧ ls.length ≤ 1000 ∧ (∀ b, AV b → H b ≠ none) ∧
  (m' ≠ m → E (.ref CS) none H) ∧ (m' = m → ¬ (PlsOk o1 c mem.length ∧ belF o2 (i : Int) (m : Int) = true) → ∀ H', Same H H' → E (.ref CM) none H') ∧
  (m' = m → ∀ (P0 G0 : Addr) (pl : List Nat) (gv : List Int), x1 = .ref P0 → x2 = .ref G0 → H P0 = some (.lst (cInts pl)) → H G0 = some (.lst (gv.map V.int)) → pl.length = c → pl.Nodup → (∀ k, k ∈ pl → k < mem.length) → Mem m i gv →
    ∀ (a : Addr) (H' : Hp), H a = none → VaAt K CV CL AV H' v M D m (nt + 1) mem (ls ++ [(nt, a, ⟨ss, c, i, pl, gv, mem.getD (pl.getD 0 0) 0, 0⟩)]) → KeepS (fun b => b = v ∨ b = D) H H' → Q (.int (nt : Int)) H')
theorem ok_Vault_lend (T : Txt K mg) : FnOk P w K mg base (L2.CX P w) 4 T.a_Vault_lend T.fd_Vault_lend ["self", "program", "places", "given"] (sp_Vault_lend T.C_Vault T.C_Loan T.C_Program T.E_BadStep T.E_BadMemory K) := by
  refine T.F_Vault_lend.okX sc_Vault_lend (fun vs H Q E h => ?_) (fun cdv A outer s H vs Q E hr h => ?_)
  · obtain ⟨d, v, M, D, p, L, x1, x2, o1, o2, AV, m, m', nt, c, i, mem, ls, as, ss, rfl, _⟩ := h
    rfl
  · obtain ⟨d, v, M, D, p, L, x1, x2, o1, o2, AV, m, m', nt, c, i, mem, ls, as, ss, rfl, hV, lc, hP, ok, hN1, hN2, hl9, hal, q0, q1, q⟩ := h
    obtain ⟨dx, h1⟩ := hV.ob
    obtain ⟨dp, p1, pc⟩ := hP.ob
    have vc := hV.vc
    have c60 := ok.c60
    have i60 := ok.i60
    refine ⟨_, (pss_cons (ps_if (PW.pt (pw_or (pt_not (pt_val (pe_callB (id := "isinstance") (C8.call_isC T.ic_Program) (by rfl) T.m_isinstance (by decide +kernel) (pa_cons (pv 1) (pa_cons (pe_glob (v := .ref T.C_Program) (by rfl) T.gc_Program rfl) pa_nil))))) (pw_or1 (pt_cmpR op_ne (pe_fld (pv 1) rfl) (pe_fld (pv 0) rfl) (nomark _)))))
      (pss_one (ps_raise rfl (takes_of rfl rfl rfl rfl) (pmk_own PySem.F.excBase_ValueError T.xE_BadStep T.gE_BadStep T.kE_BadStep (raises_own T.bE_BadStep T.tE_BadStep) (by exact rfl))))
      pss_nil)
      (pss_cons (ps_if (pt_not (pt_val (pe_call (ok_are_places T) hr (by rfl) T.g_are_places T.F_are_places.kp T.b_are_places .nil pass0 (pa_cons (pv 2) (pa_cons (pe_fld (pv 1) rfl) (pa_cons (pe_callB (id := "len") (r := rLen K) cr_len (by rfl) T.m_len PySem.boot_len (pa_cons (pe_fld (pv 0) rfl) pa_nil)) pa_nil))))))
      (pss_one (ps_raise rfl (takes_of rfl rfl rfl rfl) (SkE.pmk_own1 PySem.F.excBase_ValueError T.xE_BadMemory T.gE_BadMemory T.kE_BadMemory (raises_own T.bE_BadMemory T.tE_BadMemory) (by exact rfl) (pe_joined (PJ.cons pe_str (PJ.cons (pe_fmt (pe_fld (pv 1) rfl)) (PJ.cons pe_str PJ.nil)))))))
      pss_nil)
      (pss_cons (ps_if (pt_not (pt_val (pe_call (ok_are_numbers T) (hr.mono (by decide)) (by rfl) T.g_are_numbers T.F_are_numbers.kp T.b_are_numbers .nil pass0 (pa_cons (pv 3) (pa_cons (pe_fld (pv 1) rfl) (pa_cons (pe_fld (pv 0) rfl) pa_nil))))))
      (pss_one (ps_raise rfl (takes_of rfl rfl rfl rfl) (SkE.pmk_own1 PySem.F.excBase_ValueError T.xE_BadMemory T.gE_BadMemory T.kE_BadMemory (raises_own T.bE_BadMemory T.tE_BadMemory) (by exact rfl) (pe_joined (PJ.cons pe_str (PJ.cons (pe_fmt (pe_fld (pv 1) rfl)) (PJ.cons pe_str PJ.nil)))))))
      pss_nil)
      (PSs.nox (pss_cons (ps_set (i := 4) sc_Vault_lend.nd rfl (.inl rfl) (pe_fld (pv 0) rfl))
      (pss_cons (ps_dput (hu_of hr) (pe_fld (pv 0) rfl) (pv 4) (pe_make T.mk_Loan (ok_Loan___init T) (hr.mono (by decide)) (by rfl) T.gc_Loan T.b_Loan___init .nil pass0 (pa_cons (pv 1) (pa_cons (pv 2) (pa_cons (pv 3) (pa_cons (pe_ix (r := rIxL K) ix_list (pe_fld (pv 0) rfl) (pe_ix (r := rIxL K) ix_list (pv 2) pe_int (fun _ _ => rfl)) (fun _ _ => rfl)) pa_nil))))) rfl)
      (pss_cons (ps_fld (pv 0) (pe_op op_add (pv 4) pe_int) rfl)
      (pss_one (ps_ret (pv 4)))))))))), ?_⟩
    walk_at "start"
    walk_at "x"
    refine ⟨p, dp, _, rfl, p1, _, rfl, ?_⟩
    walk_at "f"
    refine x_fldR p1 pc.cl pc.m progF_m ?_
    walk_at "x"
    refine x_fldR h1 vc.cl vc.o vaF_o ?_
    walk_at "x"
    refine x_iteN (fun hmm => ?_) (fun hmm => ?_)
    · exact q0 (fun e => hmm (by rw [e]))
    have hmm : m = m' := by omega
    clear q0
    subst hmm
    have q := q rfl
    have q1 := q1 rfl
    walk_at "x"
    refine x_fldR p1 pc.cl pc.c progF_c ?_
    walk_at "x"
    refine x_fldR h1 vc.cl vc.m vaF_m ?_
    walk_at "x"
    refine x_len (sq_of hV.mm) ?_
    walk_at "x"
    rw [List.length_map]
    refine ⟨d, x1, o1, c, mem.length, rfl, hN1, fun H1 b s1 hb => ?_⟩
    walk_at "x"
    refine x_iteBN (fun h0 => ?_) (fun h0 => ?_)
    · refine ⟨_, rfl, by show (Str.empty ++ _).length ≤ _; rw [Str.length_append]; exact Nat.le_of_ble_eq_true rfl, ?_⟩
      refine x_fmt ?_
      walk_at "x"
      refine x_fldR (s1 _ _ p1) pc.cl pc.c progF_c ?_
      refine .inr ⟨_, rfl, log_nat (by omega), ⟨_, rfl, ?_, _, rfl, ?_, q1 (fun z => by rw [hb.mpr z.1] at h0; cases h0) H1 s1⟩⟩
      · rw [Str.length_append]
        have := len_nat (n := c) (by omega)
        exact Nat.le_trans (Nat.add_le_add_left this _) (Nat.le_of_ble_eq_true rfl)
      · rw [Str.length_append, Str.length_append]
        have := len_nat (n := c) (by omega)
        exact Nat.le_trans (Nat.add_le_add_right (Nat.add_le_add_left this _) _) (Nat.le_of_ble_eq_true rfl)
    walk_at "x"
    refine x_fldR (s1 _ _ p1) pc.cl pc.i progF_i ?_
    walk_at "x"
    refine x_fldR (s1 _ _ h1) vc.cl vc.o vaF_o ?_
    walk_at "x"
    refine (hN2.same s1).ask fun H2 s2 => ?_
    walk_at "x"
    refine x_iteBN (fun h2 => ?_) (fun h2 => ?_)
    · refine ⟨_, rfl, by show (Str.empty ++ _).length ≤ _; rw [Str.length_append]; exact Nat.le_of_ble_eq_true rfl, ?_⟩
      refine x_fmt ?_
      walk_at "x"
      refine x_fldR ((s1.trans s2) _ _ p1) pc.cl pc.i progF_i ?_
      refine .inr ⟨_, rfl, log_nat (by omega), ⟨_, rfl, ?_, _, rfl, ?_, q1 (fun z => by rw [z.2] at h2; cases h2) H2 (s1.trans s2)⟩⟩
      · rw [Str.length_append]
        have := len_nat (n := i) (by omega)
        exact Nat.le_trans (Nat.add_le_add_left this _) (Nat.le_of_ble_eq_true rfl)
      · rw [Str.length_append, Str.length_append]
        have := len_nat (n := i) (by omega)
        exact Nat.le_trans (Nat.add_le_add_right (Nat.add_le_add_left this _) _) (Nat.le_of_ble_eq_true rfl)
    obtain ⟨pl, rfl, hpl, hnd, hlt⟩ := pls_get (hb.mp h0)
    obtain ⟨gv, rfl, hgv⟩ := belF_mem h2
    obtain ⟨P0, rfl, hp0⟩ : ∃ P0, x1 = .ref P0 ∧ H P0 = some (.lst (cInts pl)) := by cases hN1 with | lst l xs h _ _ _ => exact ⟨l, rfl, h⟩
    obtain ⟨G0, rfl, hg0⟩ : ∃ G0, x2 = .ref G0 ∧ H G0 = some (.lst (gv.map V.int)) := by cases hN2 with | lst l xs h _ _ _ => exact ⟨l, rfl, h⟩
    have q := q P0 G0 pl gv rfl rfl hp0 hg0 hpl hnd hlt hgv
    walk_at "x"
    have s12 := s1.trans s2
    have hV2 := hV.same s12
    have h12 := s12 _ _ h1
    have hc1 := ok.c1
    obtain ⟨p00, hp00⟩ : ∃ p00, pl[0]? = some p00 := ⟨_, List.getElem?_eq_getElem (by omega)⟩
    have hpd : pl.getD 0 0 = p00 := by rw [List.getD_eq_getElem?_getD, hp00]; rfl
    obtain ⟨z, hz, hzd, z0, z1⟩ := hV.mok.get (hlt p00 (List.mem_of_getElem? hp00))
    refine x_fldR h12 vc.cl vc.t vaF_t ?_
    walk_at "x"
    refine x_dputS ?_
    refine x_make1 ?_
    walk_at "x"
    refine x_fldR h12 vc.cl vc.m vaF_m ?_
    walk_at "x"
    refine x_ixL (v := .int (p00 : Int)) (sq_of (s12 _ _ hp0)) (atI_nat (j := 0) (by show ((pl.map fun (c : Nat) => V.int (c : Int)))[0]? = _; rw [List.getElem?_map, hp00]; rfl)) ?_
    walk_at "x"
    refine x_ixL (v := .int z) (sq_of hV2.mm) (atI_nat (by rw [List.getElem?_map, hz]; rfl)) ?_
    walk_at "x"
    intro x dxl hx hdx hne
    have sx : Same H2 (upd (upd H2 dxl (.own x)) x (.ins T.C_Loan dxl [])) := (same_upd hdx).trans (same_upd (by rw [upd_ne hne.symm]; exact hx))
    have ex : (upd (upd H2 dxl (.own x)) x (.ins T.C_Loan dxl [])) x = some (.ins T.C_Loan dxl []) := upd_same
    have hx0 : H x = none := s12.free hx
    generalize upd (upd H2 dxl (.own x)) x (.ins T.C_Loan dxl []) = HX at sx ex
    have s2X := s12.trans sx
    refine ⟨x, T.C_Loan, dxl, T.C_Program, p, L, P0, G0, as, ss, m, c, i, pl, gv, z, rfl, ex, lc, hP.same s2X, s2X _ _ hp0, s2X _ _ hg0, fun S P G H3 hS hP3 hG keep hx3 hS3 hst3 hP4 hG3 => ⟨rfl, ?_⟩⟩
    have old : ∀ b o, H b = some o → b ≠ x := fun b o e hbx => by rw [hbx, hx0] at e; cases e
    have k03 : Same H H3 := fun b o e => keep _ _ (s2X _ _ e) (old b o e)
    have hV3 := hV.same k03
    have fM : ∀ b, HX b = none → ¬ AV b := fun b hb e => hal b e (s2X.free hb)
    have lnx : LnAt K T.C_Loan AV H3 x ⟨ss, c, i, pl, gv, z, 0⟩ := ⟨dxl, S, P, G, as, hx3, lc, hS3, hst3, hP4, hG3, fM S hS, fM P hP3, fM G hG⟩
    have lok : LnOk m mem.length ⟨ss, c, i, pl, gv, z, 0⟩ := ⟨ok, hpl, hnd, hlt, hgv, Nat.zero_le _⟩
    have h13 := k03 _ _ h1
    walk_at "x"
    refine x_fldR h13 vc.cl vc.l vaF_l ?_
    walk_at "x"
    refine ⟨D, _, rfl, DPut.k (k := Sum.inl (nt : Int)) hV3.dd (lt_line (by unfold dctOf; rw [List.length_map]; omega)), ?_⟩
    have eput : putK (dctOf ls) (Sum.inl (nt : Int)) (V.ref x) = dctOf (ls ++ [(nt, x, ⟨ss, c, i, pl, gv, z, 0⟩)]) := by
      unfold putK
      rw [if_neg]
      · unfold dctOf; rw [List.map_append]; rfl
      · rw [Bool.not_eq_true, List.any_eq_false]
        intro kv hkv
        obtain ⟨y, hy, rfl⟩ := List.mem_map.mp hkv
        have := hV.lt y hy
        rw [decide_eq_true_iff]
        intro e
        have := Sum.inl.inj e
        omega
    rw [eput]
    have vD : v ≠ D := ne_of h1 hV.dd (by intro z; cases z)
    have h14 : (upd H3 D (.dK (dctOf (ls ++ [(nt, x, ⟨ss, c, i, pl, gv, z, 0⟩)])))) v = _ := (upd_ne vD).trans h13
    have eD : (upd H3 D (.dK (dctOf (ls ++ [(nt, x, ⟨ss, c, i, pl, gv, z, 0⟩)])))) D = _ := upd_same
    have k34 : KeepS (fun b => b = v ∨ b = D) H3 (upd H3 D (.dK (dctOf (ls ++ [(nt, x, ⟨ss, c, i, pl, gv, z, 0⟩)])))) := fun b o e hb => by rw [upd_ne (fun h => hb (.inr h))]; exact e
    generalize upd H3 D (.dK (dctOf (ls ++ [(nt, x, ⟨ss, c, i, pl, gv, z, 0⟩)]))) = H4 at h14 eD k34
    walk_at "x"
    refine ⟨v, T.C_Vault, dx, _, rfl, h14, vc.cl, vc.t, by show 4 < 1000; decide, ?_⟩
    rw [vaF_put, show (nt : Int) + 1 = ((nt + 1 : Nat) : Int) by omega]
    have k45 : KeepS (fun b => b = v ∨ b = D) H4 (upd H4 v (.ins T.C_Vault dx (vaF M m D ((nt + 1 : Nat) : Int)))) := fun b o e hb => by rw [upd_ne (fun h => hb (.inl h))]; exact e
    have e5 : (upd H4 v (.ins T.C_Vault dx (vaF M m D ((nt + 1 : Nat) : Int)))) v = _ := upd_same
    have eD5 : (upd H4 v (.ins T.C_Vault dx (vaF M m D ((nt + 1 : Nat) : Int)))) D = _ := (upd_ne vD.symm).trans eD
    generalize upd H4 v (.ins T.C_Vault dx (vaF M m D ((nt + 1 : Nat) : Int))) = H5 at k45 e5 eD5
    have k35 := k34.trans k45
    walk_at "x"
    have ln5 : ∀ y a, LnAt K T.C_Loan AV H3 a y → LnAt K T.C_Loan AV H5 a y := fun y a h => h.keep k35 fun b hb => by
      obtain ⟨_, _, _, _, _, q1, _⟩ := h.at_
      rcases hb with rfl | rfl
      · refine ⟨fun e => ?_, .inr (fun xs e => by rw [h13] at e; cases e), fun xs e => by rw [h13] at e; cases e⟩
        rw [← e, h13] at q1
        exact va_ne_ln (HO.ins.inj (Option.some.inj q1)).2.2
      · exact ⟨ne_of hV3.dd q1 (by intro z; cases z), .inr (fun xs e => by rw [hV3.dd] at e; cases e), fun xs e => by rw [hV3.dd] at e; cases e⟩
    refine q x H5 hx0 ?_ ((KeepS.same k03).trans k35)
    rw [hpd, hzd]
    have M5 : H5 M = some (.lst (mem.map V.int)) := k35 _ _ hV3.mm (by
      rintro (e | e)
      · have := hV3.mm; rw [e, h13] at this; cases this
      · exact ne_of hV3.mm hV3.dd (by intro z; cases z) e)
    refine ⟨⟨dx, e5⟩, vc, M5, eD5, hV.av, fun y hy => ?_, ?_, fun y hy => ?_, ?_, fun y hy => ?_, hV.mok, fun y hy => ?_, hV.m2, hV.m9, hV.n1, hV.n2⟩
    · rcases List.mem_append.mp hy with hy | hy
      · exact ln5 _ _ (hV3.ln y hy)
      · rw [List.mem_singleton.mp hy]; exact ln5 _ _ lnx
    · rw [List.map_append, List.nodup_append]
      refine ⟨hV.inj, by simp, fun a ha b hb e => ?_⟩
      obtain ⟨y, hy, rfl⟩ := List.mem_map.mp ha
      have hb := List.mem_singleton.mp hb
      obtain ⟨_, _, _, _, _, q1, _⟩ := (hV.ln y hy).at_
      exact old _ _ q1 (by rw [e, hb])
    · rcases List.mem_append.mp hy with hy | hy
      · exact hV.nv y hy
      · rw [List.mem_singleton.mp hy]; exact fun e => old _ _ h1 e.symm
    · rw [List.map_append, List.pairwise_append]
      refine ⟨hV.asc, List.pairwise_singleton _ _, fun a ha b hb => ?_⟩
      obtain ⟨y, hy, rfl⟩ := List.mem_map.mp ha
      rw [List.mem_singleton.mp hb]
      exact hV.lt y hy
    · rcases List.mem_append.mp hy with hy | hy
      · have := hV.lt y hy; omega
      · rw [List.mem_singleton.mp hy]; exact Nat.lt_succ_self _
    · rcases List.mem_append.mp hy with hy | hy
      · exact hV.ok y hy
      · rw [List.mem_singleton.mp hy]; exact lok


end
end Br
namespace Br
open PySem PySem.Spec PyProof.Rows L2
local macro_rules | `(tactic| walk_at "x1") => `(tactic| (with_reducible first
  | refine Br.x_seq ?_ | refine Br.x_set ?_ | refine Br.x_asg ?_ | refine Br.x_next ?_ | refine Br.x_ret ?_ | refine Br.x_retN ?_ | refine Br.x_drop ?_ | refine Br.x_if ?_ | refine Br.x_brk ?_ | refine Br.x_cont ?_
  | refine Br.x_c ?_ | refine Br.x_op ?_ | refine Br.x_un ?_ | refine Br.x_I0 ?_ | refine Br.x_U ?_ | refine Br.x_EqI ?_ | refine Br.x_NeI ?_ | refine Br.x_EqB ?_ | refine Br.x_iN ?_ | refine Br.x_int1 ?_ | refine Br.x_min2 ?_ | refine Br.x_max2 ?_ | refine Br.x_nN ?_ | refine Br.x_ifE ?_
  | refine Br.x_test (b := ()) ?_ | refine Br.x_tB ?_ | refine Br.x_bl ?_ | refine Br.x_and ?_ | refine Br.x_or ?_ | refine Br.x_not ?_ | refine Br.x_andV ?_ | refine Br.x_orV ?_ | refine Br.x_notV ?_ | refine Br.x_blP ?_
  | refine Br.x_nil ?_ | refine Br.x_cons ?_ | refine Br.x_call ?_ | refine Br.x_CB ?_ | refine Br.x_BM ?_ | refine Br.x_tup ?_ | refine Br.x_lst ?_ | refine Br.x_chain ?_ | refine Br.x_par ?_ | refine Br.x_gSub ?_ | refine Br.x_gName ?_ | refine Br.x_fld ?_ | refine Br.x_fldS ?_ | refine Br.x_match ?_ | refine Br.x_else ?_ | refine Br.x_noCase ?_))
local macro_rules | `(tactic| walk_at "xv") => `(tactic| ((with_reducible refine' Br.x_var ?hvar ?_); (case hvar => rfl)))
local macro_rules | `(tactic| walk_at "xd") => `(tactic| (dsimp only [List.set_cons_zero, List.set_cons_succ, List.cons_append, List.nil_append, List.append_nil]))
local macro_rules | `(tactic| walk_at "xi") => `(tactic| ((with_reducible refine Br.x_I ?hside ?_); (case hside => first | exact Br.mul_r (by decide) (by decide) | exact Br.mul_l (by decide) (by decide) | exact Br.mul_l (by omega) (by omega) | exact Br.mul_r (by omega) (by omega) | (show (0 : Int) < _; first | decide | omega) | exact ⟨by decide, by decide⟩ | exact ⟨by omega, by omega⟩ | exact ⟨by decide, by decide, by decide⟩)))
local macro_rules | `(tactic| walk_at "x") => `(tactic| (repeat (first | walk_at "x1" | walk_at "xv" | walk_at "xi" | walk_at "xd")))
local macro_rules | `(tactic| walk_at "start") => `(tactic| (simp only [L2.start, List.map_cons, List.map_nil, List.length_cons, List.length_nil, Nat.reduceAdd, Nat.reduceSub, List.replicate, List.cons_append, List.nil_append, List.append_nil]))
local macro_rules | `(tactic| walk_at "isi") => `(tactic| first
  | refine Br.x_isi (b := true) (.base (.int _)) (by decide +kernel) ?_ | refine Br.x_isi (b := false) (.base (.int _)) (by decide +kernel) ?_
  | refine Br.x_isi (b := true) (.base (.bl _)) (by decide +kernel) ?_ | refine Br.x_isi (b := false) (.base (.bl _)) (by decide +kernel) ?_
  | refine Br.x_isi (b := false) (.base .non) (by decide +kernel) ?_
  | refine Br.x_isi (b := true) (.base (.str _)) (by decide +kernel) ?_ | refine Br.x_isi (b := false) (.base (.str _)) (by decide +kernel) ?_
  | refine Br.x_isi (b := true) (.base (.tup (by assumption))) (by decide +kernel) ?_ | refine Br.x_isi (b := false) (.base (.tup (by assumption))) (by decide +kernel) ?_
  | refine Br.x_isi (b := true) (.base (.lst (by assumption))) (by decide +kernel) ?_ | refine Br.x_isi (b := false) (.base (.lst (by assumption))) (by decide +kernel) ?_)
local macro_rules | `(tactic| walk_at "f") => `(tactic| (refine L2.iteF ?_; walk_at "x"))
local macro_rules | `(tactic| walk_at "t") => `(tactic| (refine L2.iteT ?_; walk_at "x"))
local macro_rules | `(tactic| walk_at "is") => `(tactic| (walk_at "isi"; walk_at "x"))
local macro_rules | `(tactic| walk_at "xb") => `(tactic| (simp only [Br.bindS, List.set_cons_zero, List.set_cons_succ]; walk_at "x"))

section
variable {P : Program} {w : World} {K : PySem.W.Frag} {mg : Str → Option Value} {base : Heap}

open Br.F
/-! ### what loans do to the memory -/
theorem getD_sets {xs : List Int} {i : Nat} {z : Int} (h : i < xs.length) : (xs.set i z).getD i 0 = z := by
  rw [List.getD_eq_getElem?_getD, List.getElem?_set_self h]; rfl
theorem getD_setn {xs : List Int} {i j : Nat} {z : Int} (h : i ≠ j) : (xs.set i z).getD j 0 = xs.getD j 0 := by
  rw [List.getD_eq_getElem?_getD, List.getElem?_set_ne h, List.getD_eq_getElem?_getD]
theorem putM_out : ∀ {pl : List Nat} {vs mem : List Int} {k : Nat}, k ∉ pl → (putM mem pl vs).getD k 0 = mem.getD k 0
  | [], _, _, _, _ => by unfold putM; rfl
  | _ :: _, [], _, _, _ => by unfold putM; rfl
  | p :: pl, z :: vs, mem, k, h => by
    show (putM (mem.set p z) pl vs).getD k 0 = _
    rw [putM_out (fun hk => h (List.mem_cons_of_mem _ hk)), getD_setn (fun e => h (by rw [e]; exact List.mem_cons_self))]
theorem getM_putM : ∀ {pl : List Nat} {vs mem : List Int}, pl.Nodup → vs.length = pl.length → (∀ p, p ∈ pl → p < mem.length) → getM (putM mem pl vs) pl = vs
  | [], [], _, _, _, _ => rfl
  | [], _ :: _, _, _, h, _ => by simp at h
  | _ :: _, [], _, _, h, _ => by simp at h
  | p :: pl, z :: vs, mem, hn, hl, hlt => by
    rw [List.nodup_cons] at hn
    show (putM (mem.set p z) pl vs).getD p 0 :: getM (putM (mem.set p z) pl vs) pl = z :: vs
    rw [putM_out hn.1, getD_sets (hlt p List.mem_cons_self), getM_putM hn.2 (by simpa using hl) (fun q hq => by rw [List.length_set]; exact hlt q (List.mem_cons_of_mem _ hq))]
theorem getM_at {l1 l2 : List Int} {pl : List Nat} (h : getM l1 pl = getM l2 pl) {k : Nat} (hk : k ∈ pl) : l1.getD k 0 = l2.getD k 0 := by
  obtain ⟨i, hi⟩ := List.mem_iff_getElem?.mp hk
  have e1 : (getM l1 pl)[i]? = some (l1.getD k 0) := by unfold getM; rw [List.getElem?_map, hi]; rfl
  have e2 : (getM l2 pl)[i]? = some (l2.getD k 0) := by unfold getM; rw [List.getElem?_map, hi]; rfl
  rw [h, e2] at e1
  exact (Option.some.inj e1).symm
theorem ext_getD {l1 l2 : List Int} (hl : l1.length = l2.length) (h : ∀ k, l1.getD k 0 = l2.getD k 0) : l1 = l2 := by
  refine List.ext_getElem hl fun k h1 h2 => ?_
  have := h k
  rw [List.getD_eq_getElem?_getD, List.getD_eq_getElem?_getD, List.getElem?_eq_getElem h1, List.getElem?_eq_getElem h2] at this
  exact this
theorem putM_char {l mem vs : List Int} {pl : List Nat} (hl : l.length = mem.length) (hg : getM l pl = vs) (ho : ∀ k, k ∉ pl → l.getD k 0 = mem.getD k 0) (hn : pl.Nodup) (hlt : ∀ p, p ∈ pl → p < mem.length) : l = putM mem pl vs := by
  refine ext_getD (by rw [putM_len]; exact hl) fun k => ?_
  by_cases hk : k ∈ pl
  · refine getM_at ?_ hk
    rw [getM_putM hn (by rw [← hg]; unfold getM; rw [List.length_map]) hlt, hg]
  · rw [putM_out hk, ho k hk]
theorem putM_getM {mem : List Int} {pl : List Nat} (hn : pl.Nodup) (hlt : ∀ p, p ∈ pl → p < mem.length) : putM mem pl (getM mem pl) = mem := (putM_char rfl rfl (fun _ _ => rfl) hn hlt).symm
theorem putM_putM {mem vs ws : List Int} {pl : List Nat} (hn : pl.Nodup) (hlt : ∀ p, p ∈ pl → p < mem.length) (hw : ws.length = pl.length) : putM (putM mem pl vs) pl ws = putM mem pl ws :=
  putM_char (by rw [putM_len, putM_len]) (getM_putM hn hw (fun p hp => by rw [putM_len]; exact hlt p hp)) (fun k hk => by rw [putM_out hk, putM_out hk]) hn hlt
theorem getM_apart {mem vs : List Int} {pl ql : List Nat} (h : ∀ p, p ∈ pl → p ∉ ql) : getM (putM mem ql vs) pl = getM mem pl := by
  unfold getM
  exact List.map_congr_left fun p hp => putM_out (h p hp)
theorem putM_comm {mem vs ws : List Int} {pl ql : List Nat} (hn : pl.Nodup) (hlt : ∀ p, p ∈ pl → p < mem.length) (hv : vs.length = pl.length) (hd : ∀ p, p ∈ pl → p ∉ ql) :
    putM (putM mem ql ws) pl vs = putM (putM mem pl vs) ql ws := by
  symm
  refine putM_char (by rw [putM_len, putM_len, putM_len]) ?_ (fun k hk => ?_) hn (fun p hp => by rw [putM_len]; exact hlt p hp)
  · rw [getM_apart hd, getM_putM hn hv hlt]
  · by_cases hq : k ∈ ql
    · have : getM (putM (putM mem pl vs) ql ws) ql = getM (putM mem ql ws) ql := by
        clear hk
        have aux : ∀ (ql : List Nat) (ws m1 m2 : List Int), (∀ q, q ∈ ql → m1.getD q 0 = m2.getD q 0) → m1.length = m2.length → ∀ q, q ∈ ql → (putM m1 ql ws).getD q 0 = (putM m2 ql ws).getD q 0 := by
          intro ql
          induction ql with
          | nil => intro ws m1 m2 _ _ q hq; cases hq
          | cons a ql ih =>
            intro ws m1 m2 h1 h2 q hq
            cases ws with
            | nil => unfold putM; exact h1 q hq
            | cons w ws =>
              show (putM (m1.set a w) ql ws).getD q 0 = (putM (m2.set a w) ql ws).getD q 0
              by_cases hqa : q ∈ ql
              · refine ih ws _ _ (fun x hx => ?_) (by rw [List.length_set, List.length_set]; exact h2) q hqa
                by_cases hxa : a = x
                · subst hxa
                  by_cases hl : a < m1.length
                  · rw [getD_sets hl, getD_sets (by rw [← h2]; exact hl)]
                  · rw [List.set_eq_of_length_le (by omega), List.set_eq_of_length_le (by omega)]
                    exact h1 a List.mem_cons_self
                · rw [getD_setn hxa, getD_setn hxa]
                  exact h1 x (List.mem_cons_of_mem _ hx)
              · rw [putM_out hqa, putM_out hqa]
                rcases List.mem_cons.mp hq with rfl | hq2
                · by_cases hl : q < m1.length
                  · rw [getD_sets hl, getD_sets (by rw [← h2]; exact hl)]
                  · rw [List.set_eq_of_length_le (by omega), List.set_eq_of_length_le (by omega)]
                    exact h1 q List.mem_cons_self
                · exact absurd hq2 hqa
        unfold getM
        refine List.map_congr_left fun q hq2 => aux ql ws _ _ (fun x hx => ?_) (putM_len) q hq2
        exact putM_out fun hp => hd x hp hx
      exact getM_at this hq
    · rw [putM_out hq, putM_out hk, putM_out hq]
/-- the memory with the steps of a loan that are done -/
def fwdM (m : Nat) (mem : List Int) (x : Ln) : List Int := putM mem x.pl (runF m x.gv (x.ss.take x.done) (getM mem x.pl))
theorem run_len {m n : Nat} {x : Ln} {mem : List Int} {ss : List Stp} (hm : Mem m n mem) (h : LnOk m n x) (hs : ∀ s, s ∈ ss → StpOk m x.c x.i s) : (runF m x.gv ss (getM mem x.pl)).length = x.pl.length := by
  have hg : Mem m x.c (getM mem x.pl) := by have := getM_mem hm h.lt; rw [h.len] at this; exact this
  rw [(runF_mem (Nat.le_trans (by decide) h.pr.m2) hg hs).len, h.len]
theorem fwdM_len {m : Nat} {mem : List Int} {x : Ln} : (fwdM m mem x).length = mem.length := putM_len
theorem fwdM_mem {m n : Nat} {mem : List Int} {x : Ln} (hm : Mem m n mem) (h : LnOk m n x) : Mem m n (fwdM m mem x) := by
  have hg : Mem m x.c (getM mem x.pl) := by have := getM_mem hm h.lt; rw [h.len] at this; exact this
  exact putM_mem hm (runF_mem (Nat.le_trans (by decide) h.pr.m2) hg fun s hs => h.pr.ok s (List.mem_of_mem_take hs)).rg
/-- further steps of a loan -/
theorem fwd_adv {m n : Nat} {mem : List Int} {x : Ln} {most : Int} (hm : Mem m n mem) (h : LnOk m n x) : advM m (fwdM m mem x) x most = fwdM m mem (advL x most) := by
  have hlt : ∀ p, p ∈ x.pl → p < mem.length := fun p hp => by rw [hm.len]; exact h.lt p hp
  have h1 := run_len (ss := x.ss.take x.done) hm h fun s hs => h.pr.ok s (List.mem_of_mem_take hs)
  have hk : x.done + advN x most ≤ x.ss.length := by have := h.dn; unfold advN; omega
  show putM (fwdM m mem x) x.pl (runF m x.gv ((x.ss.drop x.done).take (advN x most)) (getM (fwdM m mem x) x.pl)) = putM mem x.pl (runF m x.gv (x.ss.take (x.done + advN x most)) (getM mem x.pl))
  have e1 : getM (fwdM m mem x) x.pl = runF m x.gv (x.ss.take x.done) (getM mem x.pl) := getM_putM h.nd h1 hlt
  rw [e1, ← runF_app, ← List.take_add]
  exact putM_putM h.nd hlt (run_len hm h fun s hs => h.pr.ok s (List.mem_of_mem_take hs))
/-- a recall takes back what was done -/
theorem fwd_rec {m n : Nat} {mem : List Int} {x : Ln} {back : List Stp} (hm : Mem m n mem) (h : LnOk m n x) (hb : BackOf m (x.ss.take x.done) back) : recM m (fwdM m mem x) x back = mem := by
  have hlt : ∀ p, p ∈ x.pl → p < mem.length := fun p hp => by rw [hm.len]; exact h.lt p hp
  have hok : ∀ s, s ∈ x.ss.take x.done → StpOk m x.c x.i s := fun s hs => h.pr.ok s (List.mem_of_mem_take hs)
  have h1 := run_len hm h hok
  have e1 : getM (fwdM m mem x) x.pl = runF m x.gv (x.ss.take x.done) (getM mem x.pl) := getM_putM h.nd h1 hlt
  have hg : Mem m x.c (getM mem x.pl) := by have := getM_mem hm h.lt; rw [h.len] at this; exact this
  unfold recM
  rw [e1, runF_back (Nat.le_trans (by decide) h.pr.m2) hb hg hok]
  show putM (fwdM m mem x) x.pl (getM mem x.pl) = mem
  unfold fwdM
  rw [putM_putM h.nd hlt (by unfold getM; rw [List.length_map]), putM_getM h.nd hlt]
/-- loans that share no cell may be done in either order -/
theorem perf_comm {m n : Nat} {mem : List Int} {x y : Ln} {ss : List Stp} (hm : Mem m n mem) (hx : LnOk m n x) (hy : LnOk m n y) (hs : ∀ s, s ∈ ss → StpOk m x.c x.i s) (hd : ∀ p, p ∈ x.pl → p ∉ y.pl) :
    putM (fwdM m mem y) x.pl (runF m x.gv ss (getM (fwdM m mem y) x.pl)) = fwdM m (putM mem x.pl (runF m x.gv ss (getM mem x.pl))) y := by
  have hlt : ∀ p, p ∈ x.pl → p < mem.length := fun p hp => by rw [hm.len]; exact hx.lt p hp
  have e1 : getM (fwdM m mem y) x.pl = getM mem x.pl := getM_apart hd
  have e2 : getM (putM mem x.pl (runF m x.gv ss (getM mem x.pl))) y.pl = getM mem y.pl := getM_apart fun p hp hq => hd p hq hp
  rw [e1]
  unfold fwdM
  rw [e2]
  exact putM_comm hx.nd hlt (run_len hm hx hs) hd
theorem VaAt.keepAt {K : PySem.W.Frag} {CV CL : Addr} {AV : Addr → Prop} {H H' : Hp} {v M D p : Addr} {m nt : Nat} {mem : List Int} {ls : Lns} {ys : List V} (h : VaAt K CV CL AV H v M D m nt mem ls) (k : Keep p H H') (hp : AV p) (hM : p ≠ M) (hl : H p = some (.lst ys)) : VaAt K CV CL AV H' v M D m nt mem ls := by
  obtain ⟨dx, h1⟩ := h.ob
  refine h.keep (T := fun b => b = p) (fun b o e hb => k b o e hb) (fun e => ne_of h1 hl (by intro z; cases z) e) (fun e => hM e.symm) (fun e => ne_of h.dd hl (by intro z; cases z) e) fun x hx => (h.ln x hx).keep (T := fun b => b = p) (fun b o e hb => k b o e hb) fun b hb => ?_
  subst hb
  obtain ⟨_, _, _, _, _, q1, _⟩ := (h.ln x hx).at_
  exact ⟨ne_of hl q1 (by intro z; cases z), .inl hp, fun xs e => by rw [hl] at e; cases e⟩
theorem VaAt.grow {K : PySem.W.Frag} {CV CL : Addr} {AV AW : Addr → Prop} {H : Hp} {v M D : Addr} {m nt : Nat} {mem : List Int} {ls : Lns} (h : VaAt K CV CL AV H v M D m nt mem ls) (hw : ∀ b, AW b → AV b ∨ H b = none) (hM : AW M) : VaAt K CV CL AW H v M D m nt mem ls :=
  ⟨h.ob, h.vc, h.mm, h.dd, hM, fun x hx => (h.ln x hx).grow hw, h.inj, h.nv, h.asc, h.lt, h.mok, h.ok, h.m2, h.m9, h.n1, h.n2⟩

end
end Br
namespace Br
open PySem PySem.Spec PyProof.Rows L2
local macro_rules | `(tactic| walk_at "x1") => `(tactic| (with_reducible first
  | refine Br.x_seq ?_ | refine Br.x_set ?_ | refine Br.x_asg ?_ | refine Br.x_next ?_ | refine Br.x_ret ?_ | refine Br.x_retN ?_ | refine Br.x_drop ?_ | refine Br.x_if ?_ | refine Br.x_brk ?_ | refine Br.x_cont ?_
  | refine Br.x_c ?_ | refine Br.x_op ?_ | refine Br.x_un ?_ | refine Br.x_I0 ?_ | refine Br.x_U ?_ | refine Br.x_EqI ?_ | refine Br.x_NeI ?_ | refine Br.x_EqB ?_ | refine Br.x_iN ?_ | refine Br.x_int1 ?_ | refine Br.x_min2 ?_ | refine Br.x_max2 ?_ | refine Br.x_nN ?_ | refine Br.x_ifE ?_
  | refine Br.x_test (b := ()) ?_ | refine Br.x_tB ?_ | refine Br.x_bl ?_ | refine Br.x_and ?_ | refine Br.x_or ?_ | refine Br.x_not ?_ | refine Br.x_andV ?_ | refine Br.x_orV ?_ | refine Br.x_notV ?_ | refine Br.x_blP ?_
  | refine Br.x_nil ?_ | refine Br.x_cons ?_ | refine Br.x_call ?_ | refine Br.x_CB ?_ | refine Br.x_BM ?_ | refine Br.x_tup ?_ | refine Br.x_lst ?_ | refine Br.x_chain ?_ | refine Br.x_par ?_ | refine Br.x_gSub ?_ | refine Br.x_gName ?_ | refine Br.x_fld ?_ | refine Br.x_fldS ?_ | refine Br.x_match ?_ | refine Br.x_else ?_ | refine Br.x_noCase ?_))
local macro_rules | `(tactic| walk_at "xv") => `(tactic| ((with_reducible refine' Br.x_var ?hvar ?_); (case hvar => rfl)))
local macro_rules | `(tactic| walk_at "xd") => `(tactic| (dsimp only [List.set_cons_zero, List.set_cons_succ, List.cons_append, List.nil_append, List.append_nil]))
local macro_rules | `(tactic| walk_at "xi") => `(tactic| ((with_reducible refine Br.x_I ?hside ?_); (case hside => first | exact Br.mul_r (by decide) (by decide) | exact Br.mul_l (by decide) (by decide) | exact Br.mul_l (by omega) (by omega) | exact Br.mul_r (by omega) (by omega) | (show (0 : Int) < _; first | decide | omega) | exact ⟨by decide, by decide⟩ | exact ⟨by omega, by omega⟩ | exact ⟨by decide, by decide, by decide⟩)))
local macro_rules | `(tactic| walk_at "x") => `(tactic| (repeat (first | walk_at "x1" | walk_at "xv" | walk_at "xi" | walk_at "xd")))
local macro_rules | `(tactic| walk_at "start") => `(tactic| (simp only [L2.start, List.map_cons, List.map_nil, List.length_cons, List.length_nil, Nat.reduceAdd, Nat.reduceSub, List.replicate, List.cons_append, List.nil_append, List.append_nil]))
local macro_rules | `(tactic| walk_at "isi") => `(tactic| first
  | refine Br.x_isi (b := true) (.base (.int _)) (by decide +kernel) ?_ | refine Br.x_isi (b := false) (.base (.int _)) (by decide +kernel) ?_
  | refine Br.x_isi (b := true) (.base (.bl _)) (by decide +kernel) ?_ | refine Br.x_isi (b := false) (.base (.bl _)) (by decide +kernel) ?_
  | refine Br.x_isi (b := false) (.base .non) (by decide +kernel) ?_
  | refine Br.x_isi (b := true) (.base (.str _)) (by decide +kernel) ?_ | refine Br.x_isi (b := false) (.base (.str _)) (by decide +kernel) ?_
  | refine Br.x_isi (b := true) (.base (.tup (by assumption))) (by decide +kernel) ?_ | refine Br.x_isi (b := false) (.base (.tup (by assumption))) (by decide +kernel) ?_
  | refine Br.x_isi (b := true) (.base (.lst (by assumption))) (by decide +kernel) ?_ | refine Br.x_isi (b := false) (.base (.lst (by assumption))) (by decide +kernel) ?_)
local macro_rules | `(tactic| walk_at "f") => `(tactic| (refine L2.iteF ?_; walk_at "x"))
local macro_rules | `(tactic| walk_at "t") => `(tactic| (refine L2.iteT ?_; walk_at "x"))
local macro_rules | `(tactic| walk_at "is") => `(tactic| (walk_at "isi"; walk_at "x"))
local macro_rules | `(tactic| walk_at "xb") => `(tactic| (simp only [Br.bindS, List.set_cons_zero, List.set_cons_succ]; walk_at "x"))

section
variable {P : Program} {w : World} {K : PySem.W.Frag} {mg : Str → Option Value} {base : Heap}

open Br.F
theorem x_forPreA {σ : L2.St} {H : Hp} {D : Ends} {ta : TE} {g : TG} {tb : TS} (h : ta σ H fun v H1 => tFor (iRng1 (tCons (tC v) tNil)) g tb D σ H1) : tFor (iRng1 (tCons ta tNil)) g tb D σ H := h
theorem x_lcPreA {σ : L2.St} {H : Hp} {Q : VK} {ta : TE} {j : Nat} {te : TE} {vs : List Nat} (h : ta σ H fun v H1 => tLc (iRng1 (tCons (tC v) tNil)) (gName j) tYes te vs σ H1 Q) : tLc (iRng1 (tCons ta tNil)) (gName j) tYes te vs σ H Q := h
theorem keep_tupsA {d n : Addr} {H H' : Hp} (k : Keep d H H') (h : Dr H d n) : Tups H H' := fun b xs e => by
  obtain ⟨_, _, h, _⟩ := h
  exact k _ _ e (ne_of e h (by intro z; cases z))
theorem wrapA {t c : Nat} {w : Int} (ht : t < c) (w0 : 0 ≤ w) (w1 : w < (c : Int) - 1) : ∃ j : Nat, ((t : Int) + 1 + w) % (c : Int) = (j : Int) ∧ j < c ∧ j ≠ t := by
  by_cases h : (t : Int) + 1 + w < c
  · exact ⟨((t : Int) + 1 + w).toNat, by rw [Int.emod_eq_of_lt (by omega) h]; omega, by omega, by omega⟩
  · have e : ((t : Int) + 1 + w) % (c : Int) = (t : Int) + 1 + w - c := by
      rw [← Int.sub_emod_right, Int.emod_eq_of_lt (by omega) (by omega)]
    exact ⟨((t : Int) + 1 + w - c).toNat, by rw [e]; omega, by omega, by omega⟩

def sp_law_gcd (K : PySem.W.Frag) : Sp := fun vs H Q _ => ∃ a b : Int, vs = [.int a, .int b] ∧ 0 ≤ a ∧ a < 2 ^ 31 ∧ 0 ≤ b ∧ b < 2 ^ 31 ∧ Q (.int (Int.gcd a b : Nat)) H
theorem ok_law_gcd (T : Txt K mg) : FnOk P w K mg base CX0 1 T.a_law_gcd T.fd_law_gcd ["a", "b"] (sp_law_gcd K) := by
  refine T.F_law_gcd.ok sc_law_gcd (fun vs H Q E h => ?_) (fun cdv A outer s H vs Q E hr h => ?_)
  · obtain ⟨a, b, rfl, _⟩ := h
    rfl
  · obtain ⟨a, b, rfl, ha0, ha1, hb0, hb1, q⟩ := h
    refine ⟨_, (pss_cons (ps_for PassesOwn.never rfl (pi_range1 (by rfl) T.m_range (pa_cons pe_int pa_nil)) (pg_name (i := 2) sc_law_gcd.nd rfl (Or.inl rfl))
      (pss_cons (ps_if (pt_cmpR op_eq (pv 1) pe_int (nomark _))
      (pss_one (ps_ret (pv 0)))
      pss_nil)
      (pss_cons (ps_set (i := 3) sc_law_gcd.nd rfl (.inl rfl) (pe_op op_mod (pv 0) (pv 1)))
      (pss_cons (ps_set (i := 0) sc_law_gcd.nd rfl (.inl rfl) (pv 1))
      (pss_one (ps_set (i := 1) sc_law_gcd.nd rfl (.inl rfl) (pv 3)))))))
      (pss_one (ps_ret (pv 0)))), ?_⟩
    walk_at "start"
    walk_at "x"
    refine x_forR1 120 (fun i σ' H' => i ≤ 100 ∧ H' = H ∧ ∃ x y v2 v3, σ' = [some (.int x), some (.int y), v2, v3] ∧ 0 ≤ x ∧ 0 ≤ y ∧ Int.gcd x y = Int.gcd a b ∧ ((i = 0 ∧ x < 2 ^ 31 ∧ y < 2 ^ 31) ∨ (y < x ∧ x * y * 2 ^ i ≤ 2 ^ 70))) (fun R r => r) (by decide) (by decide) ⟨by decide, rfl, a, b, _, _, rfl, ha0, hb0, rfl, .inl ⟨rfl, ha1, hb1⟩⟩ ?_ ?_
    · rintro i σ' H' hi ⟨hi2, rfl, x, y, v2, v3, rfl, hx, hy, hg, hI⟩
      walk_at "x"
      refine x_ite (fun hc => ?_) (fun hc => ?_)
      · walk_at "x"
        rw [hc, Int.gcd_zero_right] at hg
        have e : x = ((Int.gcd a b : Nat) : Int) := by omega
        rw [e]
        exact q
      · have hy1 : 0 < y := by omega
        walk_at "x"
        have r0 := Int.emod_nonneg x (show y ≠ 0 by omega)
        have r1 := Int.emod_lt_of_pos x hy1
        refine ⟨?_, rfl, _, _, _, _, rfl, hy, r0, by rw [gcd_step]; exact hg, .inr ⟨r1, ?_⟩⟩
        · rcases hI with ⟨e, _⟩ | ⟨h1, h2⟩
          · omega
          · by_cases hh : i < 70
            · omega
            · have h3 : (2 : Int) ^ 70 ≤ 2 ^ i := by
                have := Nat.pow_le_pow_right (show 0 < 2 by decide) (show 70 ≤ i by omega)
                exact_mod_cast this
              have h4 : 2 * 1 ≤ x * y := Int.mul_le_mul (by omega) (by omega) (by decide) (by omega)
              have h5 : x * y * 2 ^ 70 ≤ x * y * 2 ^ i := Int.mul_le_mul_of_nonneg_left h3 (by omega)
              omega
        · rcases hI with ⟨e, h1, h2⟩ | ⟨h1, h2⟩
          · subst e
            have h4 : y * (x % y) ≤ 2 ^ 31 * 2 ^ 31 := Int.mul_le_mul (by omega) (by omega) (by omega) (by decide)
            omega
          · have h3 := half_step hy1 h1
            have h4 : y * (x % y) * 2 * 2 ^ i ≤ x * y * 2 ^ i := Int.mul_le_mul_of_nonneg_right h3 (Int.pow_nonneg (by decide))
            have e : y * (x % y) * 2 ^ (i + 1) = y * (x % y) * 2 * 2 ^ i := by
              rw [Int.pow_succ, Int.mul_assoc (y * (x % y)) 2, Int.mul_comm 2 (2 ^ i)]
            omega
    · rintro σ' H' ⟨hi, _⟩
      exact absurd hi (by decide)


def sp_law_number (K : PySem.W.Frag) : Sp := fun vs H Q _ => ∃ (d n : Addr) (m : Int), vs = [.ref d, .int m] ∧ 2 ≤ m ∧ Dr H d n ∧ RetD d n (IsI 0 m) H Q
theorem ok_law_number (T : Txt K mg) : FnOk P w K mg base CX0 3 T.a_law_number T.fd_law_number ["draws", "modulus"] (sp_law_number K) := by
  refine T.F_law_number.ok sc_law_number (fun vs H Q E h => ?_) (fun cdv A outer s H vs Q E hr h => ?_)
  · obtain ⟨d, n, m, rfl, _⟩ := h
    rfl
  · obtain ⟨d, n, m, rfl, hm, hD, q⟩ := h
    refine ⟨_, (pss_cons (ps_set (i := 2) sc_law_number.nd rfl (.inl rfl) (pe_op op_mod (pe_call (ok_law_draw T) hr (by rfl) T.g_law_draw T.F_law_draw.kp T.b_law_draw .nil pass0 (pa_cons (pv 0) pa_nil)) pe_int))
      (pss_cons (ps_if (pt_cmpR op_eq (pv 2) pe_int (nomark _))
      (pss_one (ps_ret (pe_op op_sub (pv 1) pe_int)))
      pss_nil)
      (pss_cons (ps_if (pt_cmpR op_eq (pv 2) pe_int (nomark _))
      (pss_one (ps_ret pe_int))
      pss_nil)
      (pss_cons (ps_if (pt_cmpR op_eq (pv 2) pe_int (nomark _))
      (pss_one (ps_ret pe_int))
      pss_nil)
      (pss_one (ps_ret (pe_op op_mod (pe_op op_add (pe_call (ok_law_draw T) hr (by rfl) T.g_law_draw T.F_law_draw.kp T.b_law_draw .nil pass0 (pa_cons (pv 0) pa_nil)) (pe_op op_mul pe_int (pe_call (ok_law_draw T) hr (by rfl) T.g_law_draw T.F_law_draw.kp T.b_law_draw .nil pass0 (pa_cons (pv 0) pa_nil)))) (pv 1)))))))), ?_⟩
    walk_at "start"
    walk_at "x"
    refine ⟨d, n, rfl, hD, ?_⟩
    rintro _ H1 ⟨z, rfl, hz0, hz1⟩ hD1 hk1
    walk_at "x"
    refine x_ite (fun hc => ?_) (fun hc => ?_)
    · walk_at "x"
      exact q _ _ ⟨_, rfl, by omega, by omega⟩ hD1 hk1
    walk_at "x"
    refine x_ite (fun hc => ?_) (fun hc => ?_)
    · walk_at "x"
      exact q _ _ ⟨_, rfl, by omega, by omega⟩ hD1 hk1
    walk_at "x"
    refine x_ite (fun hc => ?_) (fun hc => ?_)
    · walk_at "x"
      exact q _ _ ⟨_, rfl, by omega, by omega⟩ hD1 hk1
    walk_at "x"
    refine ⟨d, n, rfl, hD1, ?_⟩
    rintro _ H2 ⟨x, rfl, _, _⟩ hD2 hk2
    walk_at "x"
    refine ⟨d, n, rfl, hD2, ?_⟩
    rintro _ H3 ⟨y, rfl, _, _⟩ hD3 hk3
    walk_at "x"
    exact q _ _ ⟨_, rfl, Int.emod_nonneg _ (by omega), Int.emod_lt_of_pos _ (by omega)⟩ hD3 ((hk1.trans hk2).trans hk3)


def FacsJ (H0 : Hp) (t c i : Nat) (d nn o : Addr) (k : Nat) (H : Hp) : Prop := Dr H d nn ∧ Keep d H0 H ∧ o ≠ d ∧ o ≠ nn ∧ ∃ (as : List Addr) (fs : List Fac), H o = some (.lst (as.map V.ref)) ∧ as.length = fs.length ∧ fs.length ≤ k ∧ (∀ (j : Nat) x b, fs[j]? = some x → as[j]? = some b → FacAt H b x) ∧ ∀ f, f ∈ fs → FacOk c i t f
def sp_law_factors (K : PySem.W.Frag) : Sp := fun vs H Q _ => ∃ (d n : Addr) (c i t : Nat), vs = [.ref d, .int (c : Int), .int (i : Int), .int (t : Int)] ∧ t < c ∧ c ≤ 60 ∧ i ≤ 60 ∧ Dr H d n ∧
  RetG d n (fun v H' => ∃ (f : Addr) (as : List Addr) (fs : List Fac), v = .ref f ∧ H' f = some (.tup (as.map V.ref)) ∧ as.length = fs.length ∧ fs.length ≤ 3 ∧ (∀ (j : Nat) x b, fs[j]? = some x → as[j]? = some b → FacAt H' b x) ∧ ∀ f, f ∈ fs → FacOk c i t f) H Q
theorem ok_law_factors (T : Txt K mg) : FnOk P w K mg base CX0 3 T.a_law_factors T.fd_law_factors ["draws", "cells", "inputs", "target"] (sp_law_factors K) := by
  refine T.F_law_factors.ok sc_law_factors (fun vs H Q E h => ?_) (fun cdv A outer s H vs Q E hr h => ?_)
  · obtain ⟨d, n, c, i, t, rfl, _⟩ := h
    rfl
  · obtain ⟨d, n, c, i, t, rfl, htc, c60, i60, hD, q⟩ := h
    refine ⟨_, (pss_cons (ps_set (i := 4) sc_law_factors.nd rfl (.inl rfl) (pe_lst pa_nil))
      (pss_cons (ps_for PassesOwn.never rfl (pi_range1 (by rfl) T.m_range (pa_cons (pe_op op_mod (pe_call (ok_law_draw T) hr (by rfl) T.g_law_draw T.F_law_draw.kp T.b_law_draw .nil pass0 (pa_cons (pv 0) pa_nil)) pe_int) pa_nil)) (pg_name (i := 5) sc_law_factors.nd rfl (Or.inl rfl))
      (pss_one (ps_if (PW.pt (pw_and (pt_cmpR op_gt (pv 2) pe_int (nomark _)) (pw_and1 (pt_cmpR op_eq (pe_op op_mod (pe_call (ok_law_draw T) hr (by rfl) T.g_law_draw T.F_law_draw.kp T.b_law_draw .nil pass0 (pa_cons (pv 0) pa_nil)) pe_int) pe_int (nomark _)))))
      (pss_one (ps_expr (pe_bm PySem.F.plainAttrs_list PySem.F.slot_list_append PySem.F.type_list_append mt_append (pv 4) (pa_cons (pe_tup (pa_cons pe_str (pa_cons (pe_op op_mod (pe_call (ok_law_draw T) hr (by rfl) T.g_law_draw T.F_law_draw.kp T.b_law_draw .nil pass0 (pa_cons (pv 0) pa_nil)) (pv 2)) pa_nil))) pa_nil))))
      (pss_one (ps_if (pt_cmpR op_gt (pv 1) pe_int (nomark _))
      (pss_one (ps_expr (pe_bm PySem.F.plainAttrs_list PySem.F.slot_list_append PySem.F.type_list_append mt_append (pv 4) (pa_cons (pe_tup (pa_cons pe_str (pa_cons (pe_op op_mod (pe_op op_add (pe_op op_add (pv 3) pe_int) (pe_op op_mod (pe_call (ok_law_draw T) hr (by rfl) T.g_law_draw T.F_law_draw.kp T.b_law_draw .nil pass0 (pa_cons (pv 0) pa_nil)) (pe_op op_sub (pv 1) pe_int))) (pv 1)) pa_nil))) pa_nil))))
      pss_nil)))))
      (pss_one (ps_ret (pe_callTy (T := "tuple") (r := rTupOf K) cr_tup_of (by rfl) T.m_tuple (by decide +kernel) (pa_cons (pv 4) pa_nil)))))), ?_⟩
    walk_at "start"
    walk_at "x"
    refine ⟨by show 0 ≤ sizeLine; decide, fun o ho => ?_⟩
    have hD0 := hD.upd0 (o := .lst []) ho
    have e0 : (upd H o (.lst [])) o = some (.lst (([] : List Addr).map V.ref)) := upd_same
    have k0 : Keep d H (upd H o (.lst [])) := Same.keep (same_upd ho)
    have hod := hD.new ho
    have hon := hD.newN ho
    generalize upd H o (.lst []) = H0 at hD0 e0 k0
    walk_at "x"
    refine x_forPreA ?_
    walk_at "x"
    refine ⟨d, n, rfl, hD0, ?_⟩
    rintro _ H1 ⟨z, rfl, z0, z1⟩ hD1 hk1
    walk_at "x"
    refine x_forR1 (z % 4) (fun k σ' H' => ∃ v5, σ' = [some (.ref d), some (.int (c : Int)), some (.int (i : Int)), some (.int (t : Int)), some (.ref o), v5] ∧ FacsJ H t c i d n o k H') (fun R r => r) (by omega) (by omega) ⟨_, rfl, hD1, k0.trans hk1, hod, hon, [], [], hk1 _ _ e0 hod, rfl, Nat.zero_le _, fun j x b h => by simp at h, fun f h => by simp at h⟩ ?_ ?_
    · rintro k σ' H2 hk ⟨v5, rfl, hD2, hk2, _, _, as, fs, hO, hal, hfl, hfs, hok⟩
      have put : ∀ {H3 : Hp} {p : Addr} {f : Fac} {R : VK}, Dr H3 d n → Keep d H2 H3 → H3 p = none → FacOk c i t f → (∀ xs, FacAt (upd H3 p (.tup xs)) p f → True) → ∀ xs, FacAt (upd H3 p (.tup xs)) p f → (∀ H4 : Hp, FacsJ H t c i d n o (k + 1) H4 → R .non H4) → rAppend (.ref o) [.ref p] (upd H3 p (.tup xs)) R := fun {H3 p f R} hD3 hk3 hp okf _ xs hf r => by
        have hO3 := hk3 _ _ hO hod
        have hop : o ≠ p := ne_of_none hO3 hp
        have tp := keep_tupsA hk3 hD2
        have up := same_upd (o := .tup xs) hp
        refine x_app (by rw [upd_ne hop]; exact hO3) (by rw [List.length_map]; omega) (r _ ⟨(hD3.upd0 hp).upd hod hon, kput (kput (hk2.trans hk3) (hk2.free hD2 (hk3.free hD3 hp))) ho, hod, hon, as ++ [p], fs ++ [f], by rw [upd_same, List.map_append]; rfl, by rw [List.length_append, List.length_append, hal]; rfl, by rw [List.length_append]; show _ + 1 ≤ _; omega, fun j x b e1 e2 => ?_, fun g hg => ?_⟩)
        · have tp2 : Tups (upd H3 p (.tup xs)) (upd (upd H3 p (.tup xs)) o (.lst (as.map V.ref ++ [V.ref p]))) := (Tups.refl _).put (fun ys e => by rw [upd_ne hop, hO3] at e; cases e)
          rcases snoc_at rfl e1 with ⟨h1, e1⟩ | ⟨h1, rfl⟩
          · rcases snoc_at rfl e2 with ⟨h2, e2⟩ | ⟨h2, rfl⟩
            · exact (((hfs j x b e1 e2).tups tp).tups (Tups.same up)).tups tp2
            · omega
          · rcases snoc_at rfl e2 with ⟨h2, e2⟩ | ⟨h2, rfl⟩
            · omega
            · exact hf.tups tp2
        · rcases List.mem_append.mp hg with h | h
          · exact hok g h
          · rw [List.mem_singleton.mp h]; exact okf
      have skip : ∀ {H3 : Hp}, Dr H3 d n → Keep d H2 H3 → FacsJ H t c i d n o (k + 1) H3 := fun {H3} hD3 hk3 =>
        ⟨hD3, hk2.trans hk3, hod, hon, as, fs, hk3 _ _ hO hod, hal, by omega, fun j x b e1 e2 => (hfs j x b e1 e2).tups (keep_tupsA hk3 hD2), hok⟩
      have cellW : ∀ {H3 : Hp} {R : VK}, Dr H3 d n → Keep d H2 H3 → 1 < c → (∀ H4 : Hp, FacsJ H t c i d n o (k + 1) H4 → R .non H4) → ∀ w : Int, 0 ≤ w → ∀ p, H3 p = none → rAppend (.ref o) [.ref p] (upd H3 p (.tup [.str "cell", .int (((t : Int) + 1 + w % ((c : Int) - 1)) % (c : Int))])) R := fun {H3 R} hD3 hk3 hc r w w0 p hp => by
        obtain ⟨j, ej, jc, jt⟩ := wrapA htc (Int.emod_nonneg w (show (c : Int) - 1 ≠ 0 by omega)) (Int.emod_lt_of_pos w (show (0 : Int) < (c : Int) - 1 by omega))
        rw [ej]
        exact put (f := .cell j) hD3 hk3 hp ⟨jc, jt⟩ (fun _ _ => trivial) _ upd_same r
      walk_at "x"
      refine x_ite (fun hc => ?_) (fun hc => ?_)
      · walk_at "x"
        refine ⟨d, n, rfl, hD2, ?_⟩
        rintro _ H3 ⟨y, rfl, _, _⟩ hD3 hk3
        walk_at "x"
        refine x_ite (fun hc2 => ?_) (fun hc2 => ?_)
        · walk_at "x"
          refine x_tyL (hk3 _ _ hO hod) ?_
          walk_at "x"
          refine ⟨d, n, rfl, hD3, ?_⟩
          rintro _ H4 ⟨w, rfl, _, _⟩ hD4 hk4
          walk_at "x"
          refine ⟨by show 2 ≤ sizeLine; decide, fun p hp => ?_⟩
          obtain ⟨j, ej⟩ : ∃ j : Nat, w % (i : Int) = (j : Int) := ⟨(w % (i : Int)).toNat, by have := Int.emod_nonneg w (show (i : Int) ≠ 0 by omega); omega⟩
          have ji : j < i := by have := Int.emod_lt_of_pos w (show (0 : Int) < i by omega); omega
          rw [ej]
          walk_at "x"
          refine put (f := .inp j) hD4 (hk3.trans hk4) hp ji (fun _ _ => trivial) _ upd_same fun H5 h5 => ?_
          walk_at "x"
          exact ⟨_, rfl, h5⟩
        · walk_at "x"
          refine x_ite (fun hc3 => ?_) (fun hc3 => ?_)
          · walk_at "x"
            refine x_tyL (hk3 _ _ hO hod) ?_
            walk_at "x"
            refine ⟨d, n, rfl, hD3, ?_⟩
            rintro _ H4 ⟨w, rfl, w0, _⟩ hD4 hk4
            walk_at "x"
            refine ⟨by show 2 ≤ sizeLine; decide, fun p hp => ?_⟩
            walk_at "x"
            refine cellW hD4 (hk3.trans hk4) (by omega) (fun H5 h5 => ?_) w w0 p hp
            walk_at "x"
            exact ⟨_, rfl, h5⟩
          · walk_at "x"
            exact ⟨_, rfl, skip hD3 hk3⟩
      · walk_at "f"
        refine x_ite (fun hc3 => ?_) (fun hc3 => ?_)
        · walk_at "x"
          refine x_tyL hO ?_
          walk_at "x"
          refine ⟨d, n, rfl, hD2, ?_⟩
          rintro _ H4 ⟨w, rfl, w0, _⟩ hD4 hk4
          walk_at "x"
          refine ⟨by show 2 ≤ sizeLine; decide, fun p hp => ?_⟩
          walk_at "x"
          refine cellW hD4 hk4 (by omega) (fun H5 h5 => ?_) w w0 p hp
          walk_at "x"
          exact ⟨_, rfl, h5⟩
        · walk_at "x"
          exact ⟨_, rfl, skip hD2 (Keep.refl _ _)⟩
    · rintro σ' H2 ⟨v5, rfl, hD2, hk2, _, _, as, fs, hO, hal, hfl, hfs, hok⟩
      walk_at "x"
      refine x_tupL (sq_of hO) fun l hl => ?_
      have up := same_upd (o := .tup (as.map V.ref)) hl
      exact q _ _ ⟨l, as, fs, rfl, upd_same, hal, by omega, fun j x b e1 e2 => (hfs j x b e1 e2).tups (Tups.same up), hok⟩ (hD2.upd0 hl) (hk2.trans (Same.keep up))


end
end Br
namespace Br
open PySem PySem.Spec PyProof.Rows L2
local macro_rules | `(tactic| walk_at "x1") => `(tactic| (with_reducible first
  | refine Br.x_seq ?_ | refine Br.x_set ?_ | refine Br.x_asg ?_ | refine Br.x_next ?_ | refine Br.x_ret ?_ | refine Br.x_retN ?_ | refine Br.x_drop ?_ | refine Br.x_if ?_ | refine Br.x_brk ?_ | refine Br.x_cont ?_
  | refine Br.x_c ?_ | refine Br.x_op ?_ | refine Br.x_un ?_ | refine Br.x_I0 ?_ | refine Br.x_U ?_ | refine Br.x_EqI ?_ | refine Br.x_NeI ?_ | refine Br.x_EqB ?_ | refine Br.x_iN ?_ | refine Br.x_int1 ?_ | refine Br.x_min2 ?_ | refine Br.x_max2 ?_ | refine Br.x_nN ?_ | refine Br.x_ifE ?_
  | refine Br.x_test (b := ()) ?_ | refine Br.x_tB ?_ | refine Br.x_bl ?_ | refine Br.x_and ?_ | refine Br.x_or ?_ | refine Br.x_not ?_ | refine Br.x_andV ?_ | refine Br.x_orV ?_ | refine Br.x_notV ?_ | refine Br.x_blP ?_
  | refine Br.x_nil ?_ | refine Br.x_cons ?_ | refine Br.x_call ?_ | refine Br.x_CB ?_ | refine Br.x_BM ?_ | refine Br.x_tup ?_ | refine Br.x_lst ?_ | refine Br.x_chain ?_ | refine Br.x_par ?_ | refine Br.x_gSub ?_ | refine Br.x_gName ?_ | refine Br.x_fld ?_ | refine Br.x_fldS ?_ | refine Br.x_match ?_ | refine Br.x_else ?_ | refine Br.x_noCase ?_))
local macro_rules | `(tactic| walk_at "xv") => `(tactic| ((with_reducible refine' Br.x_var ?hvar ?_); (case hvar => rfl)))
local macro_rules | `(tactic| walk_at "xd") => `(tactic| (dsimp only [List.set_cons_zero, List.set_cons_succ, List.cons_append, List.nil_append, List.append_nil]))
local macro_rules | `(tactic| walk_at "xi") => `(tactic| ((with_reducible refine Br.x_I ?hside ?_); (case hside => first | exact Br.mul_r (by decide) (by decide) | exact Br.mul_l (by decide) (by decide) | exact Br.mul_l (by omega) (by omega) | exact Br.mul_r (by omega) (by omega) | (show (0 : Int) < _; first | decide | omega) | exact ⟨by decide, by decide⟩ | exact ⟨by omega, by omega⟩ | exact ⟨by decide, by decide, by decide⟩)))
local macro_rules | `(tactic| walk_at "x") => `(tactic| (repeat (first | walk_at "x1" | walk_at "xv" | walk_at "xi" | walk_at "xd")))
local macro_rules | `(tactic| walk_at "start") => `(tactic| (simp only [L2.start, List.map_cons, List.map_nil, List.length_cons, List.length_nil, Nat.reduceAdd, Nat.reduceSub, List.replicate, List.cons_append, List.nil_append, List.append_nil]))
local macro_rules | `(tactic| walk_at "isi") => `(tactic| first
  | refine Br.x_isi (b := true) (.base (.int _)) (by decide +kernel) ?_ | refine Br.x_isi (b := false) (.base (.int _)) (by decide +kernel) ?_
  | refine Br.x_isi (b := true) (.base (.bl _)) (by decide +kernel) ?_ | refine Br.x_isi (b := false) (.base (.bl _)) (by decide +kernel) ?_
  | refine Br.x_isi (b := false) (.base .non) (by decide +kernel) ?_
  | refine Br.x_isi (b := true) (.base (.str _)) (by decide +kernel) ?_ | refine Br.x_isi (b := false) (.base (.str _)) (by decide +kernel) ?_
  | refine Br.x_isi (b := true) (.base (.tup (by assumption))) (by decide +kernel) ?_ | refine Br.x_isi (b := false) (.base (.tup (by assumption))) (by decide +kernel) ?_
  | refine Br.x_isi (b := true) (.base (.lst (by assumption))) (by decide +kernel) ?_ | refine Br.x_isi (b := false) (.base (.lst (by assumption))) (by decide +kernel) ?_)
local macro_rules | `(tactic| walk_at "f") => `(tactic| (refine L2.iteF ?_; walk_at "x"))
local macro_rules | `(tactic| walk_at "t") => `(tactic| (refine L2.iteT ?_; walk_at "x"))
local macro_rules | `(tactic| walk_at "is") => `(tactic| (walk_at "isi"; walk_at "x"))
local macro_rules | `(tactic| walk_at "xb") => `(tactic| (simp only [Br.bindS, List.set_cons_zero, List.set_cons_succ]; walk_at "x"))

section
variable {P : Program} {w : World} {K : PySem.W.Frag} {mg : Str → Option Value} {base : Heap}

open Br.F


theorem x_lcRB {σ : L2.St} {H : Hp} {Q : VK} {ta tc : TE} {tt : TT} {j : Nat} {te : TE} {vs : List Nat} (lo n : Int) (P : Addr → Nat → Hp → Prop) (hn : ∀ R : V → Hp → Prop, R (.int lo) H → ta σ H R) (hn2 : ∀ R : V → Hp → Prop, R (.int n) H → tc σ H R) (h1 : -(2 ^ 62) ≤ lo) (h2 : lo < 2 ^ 62) (h3 : -(2 ^ 62) ≤ n) (h4 : n < 2 ^ 62) (h0 : ∀ p, H p = none → P p 0 (L2.upd H p (.lst [])))
    (hw : ∀ x, wipe ((wipe σ vs).set j (some x)) vs = wipe σ vs)
    (hs : ∀ p (i : Nat) H', H p = none → lo + (i : Int) < n → P p i H' → tt ((wipe σ vs).set j (some (.int (lo + (i : Int))))) H' fun b H3 => if b = true then te ((wipe σ vs).set j (some (.int (lo + (i : Int))))) H3 fun y H4 => ∃ acc, H4 p = some (.lst acc) ∧ acc.length < sizeLine ∧ P p (i + 1) (L2.upd H4 p (.lst (acc ++ [y]))) else P p (i + 1) H3)
    (hd : ∀ p H', H p = none → P p (n - lo).toNat H' → Q (.ref p) H') : tLc (iRng2 (tCons ta (tCons tc tNil))) (gName j) tt te vs σ H Q := by
  refine hn _ (hn2 _ ⟨lo, n, rfl, ⟨h1, h2, h3, h4⟩, fun p hp => ?_⟩)
  refine lc_range (lo := lo) (Qd := fun H' => Q (.ref p) H') (P p) (h0 p hp) (fun i H' hi q => ?_) fun H' q => hd p H' hp q
  exact ⟨hw _, hs p i H' hp (by omega) q⟩
def sp_law_is_prime (K : PySem.W.Frag) : Sp := fun vs H Q _ => ∃ m : Nat, vs = [.int (m : Int)] ∧ 2 ≤ m ∧ m ≤ 1000000000 ∧ ∀ (b : Bool) H', Same H H' → (b = true → IsPrime m) → Q (.bl b) H'
theorem ok_law_is_prime (T : Txt K mg) : FnOk P w K mg base CX0 1 T.a_law_is_prime T.fd_law_is_prime ["number"] (sp_law_is_prime K) := by
  refine T.F_law_is_prime.ok sc_law_is_prime (fun vs H Q E h => ?_) (fun cdv A outer s H vs Q E hr h => ?_)
  · obtain ⟨m, rfl, _⟩ := h
    rfl
  · obtain ⟨m, rfl, m2, m9, q⟩ := h
    refine ⟨_, (pss_cons (ps_if (pt_cmpR op_gt (pv 0) pe_int (nomark _))
      (pss_one (ps_ret (pe_cmpR op_eq (pv 0) pe_int (nomark _))))
      pss_nil)
      (pss_one (ps_ret (pe_cmpR op_eq (pe_callB (id := "len") (r := rLen K) cr_len (by rfl) T.m_len PySem.boot_len (pa_cons (pe_lc (own := [("k", 1)]) (g := gName 1) (tt := _) rfl sc_law_is_prime.nd (pi_range2 (by rfl) T.m_range (pa_cons pe_int (pa_cons (pv 0) pa_nil))) (blkOk_by (N := N_law_is_prime) (sc := defScope s_law_is_prime) (by decide +kernel)) (fun _ _ _ _ _ => (pg_name (i := 1) sc_law_is_prime.nd rfl (Or.inl rfl))) (fun _ _ _ _ _ => (pts_one (pt_cmpR op_eq (pe_op op_mod (pv 0) (pv 1)) pe_int (nomark _)))) (fun _ _ _ _ _ => (pv 1))) pa_nil)) pe_int (nomark _))))), ?_⟩
    walk_at "start"
    walk_at "x"
    refine x_ite (fun hc => ?_) (fun hc => ?_)
    · walk_at "x"
      refine q _ H (Same.refl _) fun hb => ?_
      have hm : m = 999999937 := by have := of_decide_eq_true hb; omega
      rw [hm]
      exact pBig
    · walk_at "x"
      refine x_lcRB 2 (m : Int) (fun p k H' => Same H H' ∧ ∃ acc, H' p = some (.lst acc) ∧ acc.length ≤ k ∧ (acc.length = 0 → ∀ d : Int, 2 ≤ d → d < 2 + (k : Int) → (m : Int) % d ≠ 0)) (fun R r => r) (fun R r => ⟨_, rfl, r⟩) (by decide) (by decide) (by omega) (by omega) (fun p hp => ⟨same_upd hp, [], upd_same, Nat.le_refl _, fun _ d a b => by omega⟩) (fun x => rfl) ?_ ?_
      · rintro p k H2 hp hk ⟨s2, acc, e2, hl, hI2⟩
        walk_at "x"
        refine x_ite (fun hc => ?_) (fun hc => ?_)
        · walk_at "x"
          refine ⟨acc, e2, lt_line (by omega), sput s2 hp, _, upd_same, by rw [List.length_append]; show acc.length + 1 ≤ k + 1; omega, fun h => ?_⟩
          rw [List.length_append] at h
          exact absurd h (by show ¬ (acc.length + 1 = 0); omega)
        · refine ⟨s2, acc, e2, by omega, fun h d a b => ?_⟩
          by_cases e : d = 2 + (k : Int)
          · rw [e]; exact hc
          · exact hI2 h d a (by omega)
      · rintro p H2 hp ⟨s2, acc, e2, hl, hI2⟩
        walk_at "x"
        refine x_len (sq_of e2) ?_
        walk_at "x"
        refine q _ H2 s2 fun hb => ?_
        have h0 : acc.length = 0 := by have := of_decide_eq_true hb; omega
        refine ⟨m2, fun d hd => ?_⟩
        by_cases h1 : d = 1
        · exact .inl h1
        · by_cases h2 : d = m
          · exact .inr h2
          · have hle := Nat.le_of_dvd (by omega) hd
            have hd0 : d ≠ 0 := fun e => by rw [e] at hd; have := Nat.eq_zero_of_zero_dvd hd; omega
            exact absurd (Int.emod_eq_zero_of_dvd (Int.ofNat_dvd.mpr hd)) (hI2 h0 (d : Int) (by omega) (by omega))


def sp_law_modulus (K : PySem.W.Frag) : Sp := fun vs H Q _ => ∃ (d n : Addr), vs = [.ref d] ∧ Dr H d n ∧ RetG d n (fun v _ => ∃ m : Nat, v = .int (m : Int) ∧ 2 ≤ m ∧ m ≤ 1000000000) H Q
theorem menuM {v : V} (h : v ∈ [V.int 2, .int 3, .int 5, .int 7, .int 10, .int 97, .int 1000000000, .int 999999937]) : ∃ m : Nat, v = .int (m : Int) ∧ 2 ≤ m ∧ m ≤ 1000000000 := by
  have e : v = .int 2 ∨ v = .int 3 ∨ v = .int 5 ∨ v = .int 7 ∨ v = .int 10 ∨ v = .int 97 ∨ v = .int 1000000000 ∨ v = .int 999999937 := by simpa using h
  rcases e with rfl | rfl | rfl | rfl | rfl | rfl | rfl | rfl
  · exact ⟨2, rfl, by decide, by decide⟩
  · exact ⟨3, rfl, by decide, by decide⟩
  · exact ⟨5, rfl, by decide, by decide⟩
  · exact ⟨7, rfl, by decide, by decide⟩
  · exact ⟨10, rfl, by decide, by decide⟩
  · exact ⟨97, rfl, by decide, by decide⟩
  · exact ⟨1000000000, rfl, by decide, by decide⟩
  · exact ⟨999999937, rfl, by decide, by decide⟩
theorem ok_law_modulus (T : Txt K mg) : FnOk P w K mg base CX0 3 T.a_law_modulus T.fd_law_modulus ["draws"] (sp_law_modulus K) := by
  refine T.F_law_modulus.ok sc_law_modulus (fun vs H Q E h => ?_) (fun cdv A outer s H vs Q E hr h => ?_)
  · obtain ⟨d, n, rfl, _⟩ := h
    rfl
  · obtain ⟨d, n, rfl, hD, q⟩ := h
    refine ⟨_, (pss_cons (ps_set (i := 1) sc_law_modulus.nd rfl (.inl rfl) (pe_op op_mod (pe_call (ok_law_draw T) hr (by rfl) T.g_law_draw T.F_law_draw.kp T.b_law_draw .nil pass0 (pa_cons (pv 0) pa_nil)) pe_int))
      (pss_cons (ps_if (pt_cmpR op_eq (pv 1) pe_int (nomark _))
      (pss_one (ps_ret (pe_op op_add pe_int (pe_op op_mod (pe_op op_add (pe_call (ok_law_draw T) hr (by rfl) T.g_law_draw T.F_law_draw.kp T.b_law_draw .nil pass0 (pa_cons (pv 0) pa_nil)) (pe_op op_mul pe_int (pe_call (ok_law_draw T) hr (by rfl) T.g_law_draw T.F_law_draw.kp T.b_law_draw .nil pass0 (pa_cons (pv 0) pa_nil)))) (pe_op op_sub (pe_op op_pow pe_int pe_int) pe_int)))))
      pss_nil)
      (pss_one (ps_ret (pe_ix (r := rIxL K) ix_list (pe_lst (pa_cons pe_int (pa_cons pe_int (pa_cons pe_int (pa_cons pe_int (pa_cons pe_int (pa_cons pe_int (pa_cons (pe_op op_pow pe_int pe_int) (pa_cons pe_int pa_nil))))))))) (pe_op op_mod (pe_call (ok_law_draw T) hr (by rfl) T.g_law_draw T.F_law_draw.kp T.b_law_draw .nil pass0 (pa_cons (pv 0) pa_nil)) pe_int) (fun _ _ => rfl)))))), ?_⟩
    walk_at "start"
    walk_at "x"
    refine ⟨d, n, rfl, hD, ?_⟩
    rintro _ H1 ⟨z, rfl, _, _⟩ hD1 hk1
    walk_at "x"
    refine x_ite (fun hc => ?_) (fun hc => ?_)
    · walk_at "x"
      refine ⟨d, n, rfl, hD1, ?_⟩
      rintro _ H2 ⟨x, rfl, _, _⟩ hD2 hk2
      walk_at "x"
      refine ⟨d, n, rfl, hD2, ?_⟩
      rintro _ H3 ⟨y, rfl, _, _⟩ hD3 hk3
      walk_at "x"
      have e : ((10 : Int) ^ (9 : Int).toNat - 1) = 999999999 := by decide
      rw [e]
      have h0 := Int.emod_nonneg (x + 1000000 * y) (show (999999999 : Int) ≠ 0 by decide)
      have h1 := Int.emod_lt_of_pos (x + 1000000 * y) (show (0 : Int) < 999999999 by decide)
      exact q _ _ ⟨(2 + (x + 1000000 * y) % 999999999).toNat, by rw [Int.toNat_of_nonneg (by omega)], by omega, by omega⟩ hD3 ((hk1.trans hk2).trans hk3)
    · walk_at "x"
      rw [show ((10 : Int) ^ (9 : Int).toNat) = 1000000000 by decide]
      refine ⟨by show 8 ≤ sizeLine; decide, fun u hu => ?_⟩
      have hud := hD1.new hu
      have s2 := same_upd (o := .lst [V.int 2, .int 3, .int 5, .int 7, .int 10, .int 97, .int 1000000000, .int 999999937]) hu
      have e2 : (upd H1 u (.lst [V.int 2, .int 3, .int 5, .int 7, .int 10, .int 97, .int 1000000000, .int 999999937])) u = some (.lst [V.int 2, .int 3, .int 5, .int 7, .int 10, .int 97, .int 1000000000, .int 999999937]) := upd_same
      generalize upd H1 u (.lst [V.int 2, .int 3, .int 5, .int 7, .int 10, .int 97, .int 1000000000, .int 999999937]) = H2 at s2 e2
      walk_at "x"
      refine ⟨d, n, rfl, hD1.same s2, ?_⟩
      rintro _ H3 ⟨x, rfl, _, _⟩ hD3 hk3
      walk_at "x"
      obtain ⟨v, hv, hm⟩ := at_lt (xs := [V.int 2, .int 3, .int 5, .int 7, .int 10, .int 97, .int 1000000000, .int 999999937]) (i := x % 8) (Int.emod_nonneg _ (by decide)) (Int.emod_lt_of_pos x (show (0 : Int) < 8 by decide))
      refine x_ixL (sq_of (hk3 _ _ e2 hud)) hv ?_
      exact q _ _ (menuM hm) hD3 ((hk1.trans (Same.keep s2)).trans hk3)


def RowsK (H0 : Hp) (s m : Nat) (d nn o : Addr) (i : Nat) (H : Hp) : Prop := Dr H d nn ∧ Keep d H0 H ∧ o ≠ d ∧ o ≠ nn ∧ ∃ (as : List Addr) (t : List (List Int)), H o = some (.lst (as.map V.ref)) ∧ as.length = i ∧ t.length = i ∧
  (∀ (k : Nat) r b, t[k]? = some r → as[k]? = some b → H b = some (.tup (r.map V.int))) ∧ ∀ (k : Nat) r, t[k]? = some r → r.length = s ∧ Rg 0 m r
theorem wrapB {t c : Nat} {w : Int} (ht : t < c) (w0 : 0 ≤ w) (w1 : w < (c : Int)) : ((t : Int) + w) % (c : Int) = if (t : Int) + w < c then (t : Int) + w else (t : Int) + w - c := by
  split
  · rename_i h
    exact Int.emod_eq_of_lt (by omega) h
  · rw [← Int.sub_emod_right, Int.emod_eq_of_lt (by omega) (by omega)]
def sp_law_look (K : PySem.W.Frag) : Sp := fun vs H Q _ => ∃ (d n : Addr) (m c t : Nat), vs = [.ref d, .int (m : Int), .int (c : Int), .int (t : Int)] ∧ IsPrime m ∧ m ≤ 1000000000 ∧ t < c ∧ 2 < c ∧ c ≤ 60 ∧ Dr H d n ∧
  RetG d n (fun v H' => ∃ (b : Addr) (s : Stp), v = .ref b ∧ StpAt H' b s ∧ ∀ i, StpOk m c i s) H Q
theorem ok_law_look (T : Txt K mg) : FnOk P w K mg base CX0 4 T.a_law_look T.fd_law_look ["draws", "modulus", "cells", "target"] (sp_law_look K) := by
  refine T.F_law_look.ok sc_law_look (fun vs H Q E h => ?_) (fun cdv A outer s H vs Q E hr h => ?_)
  · obtain ⟨d, n, m, c, t, rfl, _⟩ := h
    rfl
  · obtain ⟨d, n, m, c, t, rfl, hp, m9, htc, c2, c60, hD, q⟩ := h
    have m2 := hp.1
    refine ⟨_, (pss_cons (ps_set (i := 4) sc_law_look.nd rfl (.inr rfl) (pe_op op_add pe_int (pe_op op_mod (pe_call (ok_law_draw T) (hr.mono (by decide)) (by rfl) T.g_law_draw T.F_law_draw.kp T.b_law_draw .nil pass0 (pa_cons (pv 0) pa_nil)) (pe_callB (id := "min") (r := rMin2) (cr_min2 rfl) (by rfl) T.m_min (by decide +kernel) (pa_cons pe_int (pa_cons (pv 1) pa_nil))))))
      (pss_cons (ps_setLc (i := 5) (own := [("i", 8)]) (g := gName 8) (tt := tYes) rfl sc_law_look.nd rfl rfl (sw_true rfl rfl rfl (by decide +kernel)) (pi_range1 (by rfl) T.m_range (pa_cons (pv 4) pa_nil)) (blkOk_by (N := N_law_look) (sc := defScope s_law_look) (by decide +kernel)) (fun _ _ _ _ _ => (pg_name (i := 8) sc_law_look.nd rfl (Or.inl rfl))) (fun _ _ _ _ _ => pts_nil) (fun _ _ _ _ _ => (pe_callTy (T := "tuple") (r := rTupOf K) cr_tup_of (by rfl) T.m_tuple (by decide +kernel) (pa_cons (pe_lc (own := [("j", 9)]) (g := gName 9) (tt := tYes) rfl sc_law_look.nd (pi_range1 (by rfl) T.m_range (pa_cons (pv 4) pa_nil)) (blkOk_by (by kernel_rfl)) (fun _ _ _ _ _ => (pg_name (i := 9) sc_law_look.nd rfl (Or.inl rfl))) (fun _ _ _ _ _ => pts_nil) (fun _ _ _ _ _ => (pe_call (ok_law_number T) hr (by rfl) T.g_law_number T.F_law_number.kp T.b_law_number .nil pass0 (pa_cons (pv 0) (pa_cons (pv 1) pa_nil))))) pa_nil))))
      (pss_cons (ps_set (i := 6) sc_law_look.nd rfl (.inl rfl) (pe_op op_mod (pe_op op_add (pe_op op_add (pv 3) pe_int) (pe_op op_mod (pe_call (ok_law_draw T) (hr.mono (by decide)) (by rfl) T.g_law_draw T.F_law_draw.kp T.b_law_draw .nil pass0 (pa_cons (pv 0) pa_nil)) (pe_op op_sub (pv 2) pe_int))) (pv 2)))
      (pss_cons (ps_set (i := 7) sc_law_look.nd rfl (.inl rfl) (pe_op op_mod (pe_op op_add (pv 3) pe_int) (pv 2)))
      (Evl.pss_cut (ps_if (pt_cmpR op_eq (pv 6) (pv 7) (nomark _))
      (pss_one (ps_set (i := 7) sc_law_look.nd rfl (.inl rfl) (pe_op op_mod (pe_op op_add (pv 3) pe_int) (pv 2))))
      pss_nil)
      (pss_one (ps_ret (pe_tup (pa_cons pe_str (pa_cons (pv 3) (pa_cons (pe_ix (r := rIxL K) ix_list (pe_lst (pa_cons pe_int (pa_cons (pe_op op_sub (pv 1) pe_int) pa_nil))) (pe_op op_mod (pe_call (ok_law_draw T) (hr.mono (by decide)) (by rfl) T.g_law_draw T.F_law_draw.kp T.b_law_draw .nil pass0 (pa_cons (pv 0) pa_nil)) pe_int) (fun _ _ => rfl)) (pa_cons (pe_callTy (T := "tuple") (r := rTupOf K) cr_tup_of (by rfl) T.m_tuple (by decide +kernel) (pa_cons (pv 5) pa_nil)) (pa_cons (pv 6) (pa_cons (pv 7) pa_nil)))))))))))))), ?_⟩
    walk_at "start"
    walk_at "x"
    refine ⟨d, n, rfl, hD, ?_⟩
    rintro _ H1 ⟨z, rfl, z0, z1⟩ hD1 hk1
    walk_at "x"
    obtain ⟨w, ew, w1, w3, wm⟩ : ∃ w : Int, (if (m : Int) < 3 then (m : Int) else 3) = w ∧ 1 ≤ w ∧ w ≤ 3 ∧ w ≤ m := by
      split
      · exact ⟨_, rfl, by omega, by omega, by omega⟩
      · exact ⟨_, rfl, by omega, by omega, by omega⟩
    rw [ew]
    walk_at "x"
    obtain ⟨s, es, s1, s3, sm⟩ : ∃ s : Nat, 1 + z % w = (s : Int) ∧ 1 ≤ s ∧ s ≤ 3 ∧ s ≤ m := by
      have h0 := Int.emod_nonneg z (show w ≠ 0 by omega)
      have h1 := Int.emod_lt_of_pos z (show 0 < w by omega)
      exact ⟨(1 + z % w).toNat, by omega, by omega, by omega, by omega⟩
    rw [es]
    refine x_lcR1 (s : Int) (fun o k H' => RowsK H1 s m d n o k H') (fun R r => ⟨_, rfl, r⟩) (by omega) (by omega) (fun o ho => ⟨hD1.upd0 ho, Same.keep (same_upd ho), hD1.new ho, hD1.newN ho, [], [], upd_same, rfl, rfl, fun k r b h _ => by simp at h, fun k r h => by simp at h⟩) (fun x => rfl) ?_ ?_
    · rintro o k H2 ho hk ⟨hD2, hk2, hod, hon, as, tb, hO, hal, htl, hrow, hrz⟩
      walk_at "x"
      refine x_lcR1 (s : Int) (fun p k H' => Dr H' d n ∧ Keep d H2 H' ∧ p ≠ d ∧ p ≠ n ∧ ∃ xs : List Int, H' p = some (.lst (xs.map V.int)) ∧ xs.length = k ∧ Rg 0 m xs) (fun R r => ⟨_, rfl, r⟩) (by omega) (by omega) (fun p hp => ⟨hD2.upd0 hp, Same.keep (same_upd hp), hD2.new hp, hD2.newN hp, [], upd_same, rfl, .nil⟩) (fun x => rfl) ?_ ?_
      · rintro p j H3 hp hj ⟨hD3, hk3, hpd, hpn, xs, hX, hxl, hxr⟩
        walk_at "x"
        refine ⟨d, n, (m : Int), rfl, by omega, hD3, ?_⟩
        rintro _ H4 ⟨y, rfl, y0, y1⟩ hD4 hk4
        exact ⟨_, hk4 _ _ hX hpd, lt_line (by rw [List.length_map]; omega), hD4.upd hpd hpn, kput (hk3.trans hk4) hp, hpd, hpn, xs ++ [y], by rw [upd_same, List.map_append]; rfl, by rw [List.length_append, hxl]; rfl, hxr.snoc y0 y1⟩
      · rintro p H3 hp ⟨hD3, hk3, hpd, hpn, xs, hX, hxl, hxr⟩
        walk_at "x"
        refine x_tupL (sq_of hX) fun l hl => ?_
        have hO3 := hk3 _ _ hO hod
        have hlo : o ≠ l := ne_of_none hO3 hl
        have hxl : xs.length = s := by omega
        refine ⟨as.map V.ref, by rw [upd_ne hlo]; exact hO3, lt_line (by rw [List.length_map]; omega), (hD3.upd0 hl).upd hod hon, kput (kput (hk2.trans hk3) (hk2.free hD2 (hk3.free hD3 hl))) ho, hod, hon, as ++ [l], tb ++ [xs], by rw [upd_same, List.map_append]; rfl, by rw [List.length_append, hal]; rfl, by rw [List.length_append, htl]; rfl, fun k2 r b e1 e2 => ?_, fun k2 r e1 => ?_⟩
        · rcases snoc_at htl e1 with ⟨h1, e1⟩ | ⟨rfl, rfl⟩
          · rcases snoc_at hal e2 with ⟨h2, e2⟩ | ⟨rfl, rfl⟩
            · have hb7 := keep_tupsA hk3 hD2 _ _ (hrow k2 r b e1 e2)
              rw [upd_ne (ne_of hb7 hO3 (by intro z; cases z)), upd_ne (ne_of_none hb7 hl)]
              exact hb7
            · omega
          · rcases snoc_at hal e2 with ⟨h2, e2⟩ | ⟨_, rfl⟩
            · omega
            · rw [upd_ne hlo.symm, upd_same]
        · rcases snoc_at htl e1 with ⟨h1, e1⟩ | ⟨rfl, rfl⟩
          · exact hrz k2 r e1
          · exact ⟨hxl, hxr⟩
    rintro o H2 ho ⟨hD2, hk2, hod, hon, as, tb, hO, hal, htl, hrow, hrz⟩
    have htl : tb.length = s := by omega
    have hT : IsTab m tb := ⟨by omega, by omega, fun k r e => ⟨by rw [htl]; exact (hrz k r e).1, (hrz k r e).2⟩⟩
    walk_at "x"
    refine ⟨d, n, rfl, hD2, ?_⟩
    rintro _ H3 ⟨g, rfl, g0, g1⟩ hD3 hk3
    walk_at "x"
    have hO3 := hk3 _ _ hO hod
    have hrow3 : ∀ (k : Nat) r b, tb[k]? = some r → as[k]? = some b → H3 b = some (.tup (r.map V.int)) := fun k r b e1 e2 => keep_tupsA hk3 hD2 _ _ (hrow k r b e1 e2)
    obtain ⟨a', ea, ac, at_⟩ := wrapA htc (Int.emod_nonneg g (show (c : Int) - 1 ≠ 0 by omega)) (Int.emod_lt_of_pos g (show (0 : Int) < (c : Int) - 1 by omega))
    have eb1 := wrapB (w := 1) htc (by decide) (by omega)
    have eb2 := wrapB (w := 2) htc (by decide) (by omega)
    rw [ea]
    walk_at "x"
    obtain ⟨b1, hb1, b1c, b1t⟩ : ∃ b : Nat, ((t : Int) + 1) % (c : Int) = (b : Int) ∧ b < c ∧ b ≠ t := by
      rw [eb1]
      split
      · exact ⟨((t : Int) + 1).toNat, by omega, by omega, by omega⟩
      · exact ⟨((t : Int) + 1 - c).toNat, by omega, by omega, by omega⟩
    obtain ⟨b2, hb2, b2c, b2t, b12⟩ : ∃ b : Nat, ((t : Int) + 2) % (c : Int) = (b : Int) ∧ b < c ∧ b ≠ t ∧ b ≠ b1 := by
      rw [eb2]
      rw [eb1] at hb1
      split
      · rw [if_pos (by omega)] at hb1
        exact ⟨((t : Int) + 2).toNat, by omega, by omega, by omega, by omega⟩
      · refine ⟨((t : Int) + 2 - c).toNat, by omega, by omega, by omega, ?_⟩
        split at hb1 <;> omega
    rw [hb1]
    have fin : ∀ (b : Nat), b < c → b ≠ t → b ≠ a' → ∀ {H4 : Hp} {σ5 : L2.St}, Dr H4 d n → Keep d H3 H4 → True := fun _ _ _ _ => fun _ _ => trivial
    clear fin
    refine x_cut (fun σ' H' => ∃ b : Nat, σ' = [some (V.ref d), some (.int (m : Int)), some (.int (c : Int)), some (.int (t : Int)), some (.int (s : Int)), some (.ref o), some (.int (a' : Int)), some (.int (b : Int)), none, none] ∧ H3 = H' ∧ b < c ∧ b ≠ t ∧ b ≠ a') ?_ ?_
    · walk_at "x"
      refine x_ite (fun hc => ?_) (fun hc => ?_)
      · walk_at "x"
        rw [hb2]
        exact ⟨b2, rfl, rfl, b2c, b2t, by omega⟩
      · walk_at "x"
        exact ⟨b1, rfl, rfl, b1c, b1t, by omega⟩
    rintro σ' H4 ⟨b, rfl, rfl, bc, bt, ba⟩
    walk_at "x"
    refine ⟨by show 2 ≤ sizeLine; decide, fun u hu => ?_⟩
    have v4 := same_upd (o := .lst [V.int 1, .int ((m : Int) - 1)]) hu
    have e4 : (upd H3 u (.lst [V.int 1, .int ((m : Int) - 1)])) u = some (.lst [V.int 1, .int ((m : Int) - 1)]) := upd_same
    have hud := hD3.new hu
    generalize upd H3 u (.lst [V.int 1, .int ((m : Int) - 1)]) = H4 at v4 e4
    have hD4 := hD3.same v4
    walk_at "x"
    refine ⟨d, n, rfl, hD4, ?_⟩
    rintro _ H5 ⟨f, rfl, f0, f1⟩ hD5 hk5
    walk_at "x"
    obtain ⟨v, hv, hm⟩ := at_lt (xs := [V.int 1, .int ((m : Int) - 1)]) (i := f % 2) (Int.emod_nonneg _ (by decide)) (Int.emod_lt_of_pos f (show (0 : Int) < 2 by decide))
    refine x_ixL (sq_of (hk5 _ _ e4 hud)) hv ?_
    obtain ⟨sg, rfl, hsg⟩ : ∃ sg : Int, v = .int sg ∧ (sg = 1 ∨ sg = (m : Int) - 1) := by
      have e : v = .int 1 ∨ v = .int ((m : Int) - 1) := by simpa using hm
      rcases e with rfl | rfl
      · exact ⟨_, rfl, .inl rfl⟩
      · exact ⟨_, rfl, .inr rfl⟩
    have hO5 := hk5 _ _ (v4 _ _ hO3) hod
    have tp5 : Tups H3 H5 := (Tups.same v4).trans (keep_tupsA hk5 hD4)
    walk_at "x"
    refine x_tupL (sq_of hO5) fun tt htt => ?_
    have v6 := same_upd (o := .tup (as.map V.ref)) htt
    have hTb : TbAt (upd H5 tt (.tup (as.map V.ref))) tt tb := ⟨as, upd_same, by omega, fun k r b e1 e2 => v6 _ _ (tp5 _ _ (hrow3 k r b e1 e2))⟩
    have hD6 := hD5.same v6
    have k6 : Keep d H _ := ((((hk1.trans hk2).trans hk3).trans (Same.keep (d := d) v4)).trans hk5).trans (Same.keep (d := d) v6)
    generalize upd H5 tt (.tup (as.map V.ref)) = H6 at v6 hTb hD6 k6
    walk_at "x"
    refine ⟨by show 6 ≤ sizeLine; decide, fun p hp0 => ?_⟩
    have v7 := same_upd (o := .tup [V.str "table", .int (t : Int), .int sg, .ref tt, .int (a' : Int), .int (b : Int)]) hp0
    exact q _ _ ⟨p, .tab t sg tb a' b, rfl, ⟨tt, upd_same, hTb.tups (Tups.same v7)⟩, fun i => ⟨htc, ac, bc, fun e => at_ e.symm, fun e => bt e.symm, fun e => ba e.symm, hsg, hT, by omega, hp⟩⟩ (hD6.upd0 hp0) (k6.trans (Same.keep v7))


def sp_law_step (K : PySem.W.Frag) : Sp := fun vs H Q _ => ∃ (d n : Addr) (m c i : Nat), vs = [.ref d, .int (m : Int), .int (c : Int), .int (i : Int)] ∧ 2 ≤ m ∧ m ≤ 1000000000 ∧ 1 ≤ c ∧ c ≤ 60 ∧ i ≤ 60 ∧ Dr H d n ∧
  RetG d n (fun v H' => ∃ (b : Addr) (s : Stp), v = .ref b ∧ StpAt H' b s ∧ StpOk m c i s) H Q
theorem ok_law_step (T : Txt K mg) : FnOk P w K mg base CX0 5 T.a_law_step T.fd_law_step ["draws", "modulus", "cells", "inputs"] (sp_law_step K) := by
  refine T.F_law_step.ok sc_law_step (fun vs H Q E h => ?_) (fun cdv A outer s H vs Q E hr h => ?_)
  · obtain ⟨d, n, m, c, i, rfl, _⟩ := h
    rfl
  · obtain ⟨d, n, m, c, i, rfl, m2, m9, c1, c60, i60, hD, q⟩ := h
    refine ⟨_, (pss_cons (ps_set (i := 4) sc_law_step.nd rfl (.inl rfl) (pe_op op_mod (pe_call (ok_law_draw T) (hr.mono (by decide)) (by rfl) T.g_law_draw T.F_law_draw.kp T.b_law_draw .nil pass0 (pa_cons (pv 0) pa_nil)) (pv 2)))
      (pss_cons (ps_set (i := 5) sc_law_step.nd rfl (.inl rfl) (pe_op op_mod (pe_call (ok_law_draw T) (hr.mono (by decide)) (by rfl) T.g_law_draw T.F_law_draw.kp T.b_law_draw .nil pass0 (pa_cons (pv 0) pa_nil)) pe_int))
      (Evl.pss_cut (ps_if (PW.pt (pw_and (pt_cmpR op_eq (pv 5) pe_int (nomark _)) (pw_and1 (pt_cmpR op_gt (pv 2) pe_int (nomark _)))))
      (pss_one (ps_ret (pe_tup (pa_cons pe_str (pa_cons (pv 4) (pa_cons (pe_op op_mod (pe_op op_add (pe_op op_add (pv 4) pe_int) (pe_op op_mod (pe_call (ok_law_draw T) (hr.mono (by decide)) (by rfl) T.g_law_draw T.F_law_draw.kp T.b_law_draw .nil pass0 (pa_cons (pv 0) pa_nil)) (pe_op op_sub (pv 2) pe_int))) (pv 2)) pa_nil))))))
      pss_nil)
      (Evl.pss_cut (ps_if (pt_cmpR op_eq (pv 5) pe_int (nomark _))
      (pss_cons (ps_set (i := 6) sc_law_step.nd rfl (.inl rfl) (pe_call (ok_law_number T) (hr.mono (by decide)) (by rfl) T.g_law_number T.F_law_number.kp T.b_law_number .nil pass0 (pa_cons (pv 0) (pa_cons (pv 1) pa_nil))))
      (pss_one (ps_if (pt_cmpR op_eq (pe_call (ok_law_gcd T) (hr.mono (by decide)) (by rfl) T.g_law_gcd T.F_law_gcd.kp T.b_law_gcd .nil pass0 (pa_cons (pv 1) (pa_cons (pv 6) pa_nil))) pe_int (nomark _))
      (pss_one (ps_ret (pe_tup (pa_cons pe_str (pa_cons (pv 4) (pa_cons (pv 6) pa_nil))))))
      pss_nil)))
      pss_nil)
      (Evl.pss_cut (ps_if (PW.pt (pw_and (pt_cmpR op_lt (pv 5) pe_int (nomark _)) (pw_and (pt_cmpR op_gt (pv 2) pe_int (nomark _)) (pw_and1 (pt_val (pe_call (ok_law_is_prime T) (hr.mono (by decide)) (by rfl) T.g_law_is_prime T.F_law_is_prime.kp T.b_law_is_prime .nil pass0 (pa_cons (pv 1) pa_nil)))))))
      (pss_one (ps_ret (pe_call (ok_law_look T) hr (by rfl) T.g_law_look T.F_law_look.kp T.b_law_look .nil pass0 (pa_cons (pv 0) (pa_cons (pv 1) (pa_cons (pv 2) (pa_cons (pv 4) pa_nil)))))))
      pss_nil)
      (pss_one (ps_ret (pe_tup (pa_cons pe_str (pa_cons (pv 4) (pa_cons (pe_call (ok_law_number T) (hr.mono (by decide)) (by rfl) T.g_law_number T.F_law_number.kp T.b_law_number .nil pass0 (pa_cons (pv 0) (pa_cons (pv 1) pa_nil))) (pa_cons (pe_call (ok_law_factors T) (hr.mono (by decide)) (by rfl) T.g_law_factors T.F_law_factors.kp T.b_law_factors .nil pass0 (pa_cons (pv 0) (pa_cons (pv 2) (pa_cons (pv 3) (pa_cons (pv 4) pa_nil))))) pa_nil)))))))))))), ?_⟩
    walk_at "start"
    walk_at "x"
    refine ⟨d, n, rfl, hD, ?_⟩
    rintro _ H1 ⟨y, rfl, y0, y1⟩ hD1 hk1
    walk_at "x"
    obtain ⟨t, et⟩ : ∃ t : Nat, y % (c : Int) = (t : Int) := ⟨(y % (c : Int)).toNat, by have := Int.emod_nonneg y (show (c : Int) ≠ 0 by omega); omega⟩
    have htc : t < c := by have := Int.emod_lt_of_pos y (show (0 : Int) < c by omega); omega
    rw [et]
    refine ⟨d, n, rfl, hD1, ?_⟩
    rintro _ H2 ⟨z, rfl, z0, z1⟩ hD2 hk2
    have hk2 := hk1.trans hk2
    walk_at "x"
    refine x_cut (fun σ' H' => [some (V.ref d), some (.int (m : Int)), some (.int (c : Int)), some (.int (i : Int)), some (.int (t : Int)), some (.int (z % 8)), none] = σ' ∧ H2 = H') ?_ ?_
    · walk_at "x"
      refine x_ite (fun h0 => ?_) (fun h0 => ?_)
      · walk_at "x"
        refine x_ite (fun h1 => ?_) (fun h1 => ?_)
        · walk_at "x"
          refine ⟨d, n, rfl, hD2, ?_⟩
          rintro _ H3 ⟨w, rfl, w0, w1⟩ hD3 hk3
          walk_at "x"
          refine ⟨by show 3 ≤ sizeLine; decide, fun p hp => ?_⟩
          obtain ⟨j, ej, jc, jt⟩ := wrapA htc (Int.emod_nonneg w (show (c : Int) - 1 ≠ 0 by omega)) (Int.emod_lt_of_pos w (show (0 : Int) < (c : Int) - 1 by omega))
          rw [ej]
          exact q _ _ ⟨p, .swap t j, rfl, upd_same, ⟨htc, jc, jt.symm⟩⟩ (hD3.upd0 hp) (kput (hk2.trans hk3) (hk2.free hD2 (hk3.free hD3 hp)))
        · walk_at "x"
          exact ⟨rfl, rfl⟩
      · walk_at "f"
        exact ⟨rfl, rfl⟩
    rintro _ _ ⟨rfl, rfl⟩
    walk_at "x"
    refine x_cut (fun σ' H' => ∃ v6, [some (V.ref d), some (.int (m : Int)), some (.int (c : Int)), some (.int (i : Int)), some (.int (t : Int)), some (.int (z % 8)), v6] = σ' ∧ Dr H' d n ∧ Keep d H H') ?_ ?_
    · walk_at "x"
      refine x_ite (fun h0 => ?_) (fun h0 => ?_)
      · walk_at "x"
        refine ⟨d, n, (m : Int), rfl, by omega, hD2, ?_⟩
        rintro _ H3 ⟨u, rfl, u0, u1⟩ hD3 hk3
        walk_at "x"
        refine ⟨(m : Int), u, rfl, by omega, by omega, u0, by omega, ?_⟩
        walk_at "x"
        refine x_ite (fun h1 => ?_) (fun h1 => ?_)
        · walk_at "x"
          refine ⟨by show 3 ≤ sizeLine; decide, fun p hp => ?_⟩
          exact q _ _ ⟨p, .scale t u, rfl, upd_same, ⟨htc, u0, u1, by rw [Int.gcd_comm]; omega⟩⟩ (hD3.upd0 hp) (kput (hk2.trans hk3) (hk2.free hD2 (hk3.free hD3 hp)))
        · walk_at "x"
          exact ⟨_, rfl, hD3, hk2.trans hk3⟩
      · walk_at "x"
        exact ⟨_, rfl, hD2, hk2⟩
    clear hD2 hk2
    rintro _ H2 ⟨v6, rfl, hD2, hk2⟩
    walk_at "x"
    refine x_cut (fun σ' H' => [some (V.ref d), some (.int (m : Int)), some (.int (c : Int)), some (.int (i : Int)), some (.int (t : Int)), some (.int (z % 8)), v6] = σ' ∧ Dr H' d n ∧ Keep d H H') ?_ ?_
    · walk_at "x"
      refine x_ite (fun h0 => ?_) (fun h0 => ?_)
      · walk_at "x"
        refine x_ite (fun h1 => ?_) (fun h1 => ?_)
        · walk_at "x"
          refine ⟨m, rfl, m2, m9, fun b H3 s3 hb => ?_⟩
          walk_at "x"
          refine x_iteB (fun hb1 => ?_) (fun hb1 => ?_)
          · walk_at "x"
            refine ⟨d, n, m, c, t, rfl, hb hb1, m9, htc, by omega, by omega, hD2.same s3, ?_⟩
            rintro _ H4 ⟨b, s, rfl, hs, oks⟩ hD4 hk4
            exact q _ _ ⟨b, s, rfl, hs, oks i⟩ hD4 ((hk2.trans (Same.keep s3)).trans hk4)
          · walk_at "x"
            exact ⟨rfl, hD2.same s3, hk2.trans (Same.keep s3)⟩
        · walk_at "f"
          exact ⟨rfl, hD2, hk2⟩
      · walk_at "f"
        exact ⟨rfl, hD2, hk2⟩
    clear hD2 hk2
    rintro _ H3 ⟨rfl, hD3, hk3⟩
    walk_at "x"
    refine ⟨d, n, (m : Int), rfl, by omega, hD3, ?_⟩
    rintro _ H4 ⟨u, rfl, u0, u1⟩ hD4 hk4
    walk_at "x"
    refine ⟨d, n, c, i, t, rfl, htc, c60, i60, hD4, ?_⟩
    rintro _ H5 ⟨f, as, fs, rfl, hf, hal, hfl, hfs, hok⟩ hD5 hk5
    walk_at "x"
    refine ⟨by show 4 ≤ sizeLine; decide, fun p hp => ?_⟩
    have up := same_upd (o := .tup [V.str "add", .int (t : Int), .int u, .ref f]) hp
    exact q _ _ ⟨p, .add t u fs, rfl, ⟨f, as, upd_same, up _ _ hf, hal, fun j x b e1 e2 => (hfs j x b e1 e2).tups (Tups.same up)⟩, ⟨htc, u0, u1, hfl, hok⟩⟩ (hD5.upd0 hp) (kput ((hk3.trans hk4).trans hk5) ((hk3.trans hk4).free hD4 (hk5.free hD5 hp)))


end
end Br
namespace Br
open PySem PySem.Spec PyProof.Rows L2
local macro_rules | `(tactic| walk_at "x1") => `(tactic| (with_reducible first
  | refine Br.x_seq ?_ | refine Br.x_set ?_ | refine Br.x_asg ?_ | refine Br.x_next ?_ | refine Br.x_ret ?_ | refine Br.x_retN ?_ | refine Br.x_drop ?_ | refine Br.x_if ?_ | refine Br.x_brk ?_ | refine Br.x_cont ?_
  | refine Br.x_c ?_ | refine Br.x_op ?_ | refine Br.x_un ?_ | refine Br.x_I0 ?_ | refine Br.x_U ?_ | refine Br.x_EqI ?_ | refine Br.x_NeI ?_ | refine Br.x_EqB ?_ | refine Br.x_iN ?_ | refine Br.x_int1 ?_ | refine Br.x_min2 ?_ | refine Br.x_max2 ?_ | refine Br.x_nN ?_ | refine Br.x_ifE ?_
  | refine Br.x_test (b := ()) ?_ | refine Br.x_tB ?_ | refine Br.x_bl ?_ | refine Br.x_and ?_ | refine Br.x_or ?_ | refine Br.x_not ?_ | refine Br.x_andV ?_ | refine Br.x_orV ?_ | refine Br.x_notV ?_ | refine Br.x_blP ?_
  | refine Br.x_nil ?_ | refine Br.x_cons ?_ | refine Br.x_call ?_ | refine Br.x_CB ?_ | refine Br.x_BM ?_ | refine Br.x_tup ?_ | refine Br.x_lst ?_ | refine Br.x_chain ?_ | refine Br.x_par ?_ | refine Br.x_gSub ?_ | refine Br.x_gName ?_ | refine Br.x_fld ?_ | refine Br.x_fldS ?_ | refine Br.x_match ?_ | refine Br.x_else ?_ | refine Br.x_noCase ?_))
local macro_rules | `(tactic| walk_at "xv") => `(tactic| ((with_reducible refine' Br.x_var ?hvar ?_); (case hvar => rfl)))
local macro_rules | `(tactic| walk_at "xd") => `(tactic| (dsimp only [List.set_cons_zero, List.set_cons_succ, List.cons_append, List.nil_append, List.append_nil]))
local macro_rules | `(tactic| walk_at "xi") => `(tactic| ((with_reducible refine Br.x_I ?hside ?_); (case hside => first | exact Br.mul_r (by decide) (by decide) | exact Br.mul_l (by decide) (by decide) | exact Br.mul_l (by omega) (by omega) | exact Br.mul_r (by omega) (by omega) | (show (0 : Int) < _; first | decide | omega) | exact ⟨by decide, by decide⟩ | exact ⟨by omega, by omega⟩ | exact ⟨by decide, by decide, by decide⟩)))
local macro_rules | `(tactic| walk_at "x") => `(tactic| (repeat (first | walk_at "x1" | walk_at "xv" | walk_at "xi" | walk_at "xd")))
local macro_rules | `(tactic| walk_at "start") => `(tactic| (simp only [L2.start, List.map_cons, List.map_nil, List.length_cons, List.length_nil, Nat.reduceAdd, Nat.reduceSub, List.replicate, List.cons_append, List.nil_append, List.append_nil]))
local macro_rules | `(tactic| walk_at "isi") => `(tactic| first
  | refine Br.x_isi (b := true) (.base (.int _)) (by decide +kernel) ?_ | refine Br.x_isi (b := false) (.base (.int _)) (by decide +kernel) ?_
  | refine Br.x_isi (b := true) (.base (.bl _)) (by decide +kernel) ?_ | refine Br.x_isi (b := false) (.base (.bl _)) (by decide +kernel) ?_
  | refine Br.x_isi (b := false) (.base .non) (by decide +kernel) ?_
  | refine Br.x_isi (b := true) (.base (.str _)) (by decide +kernel) ?_ | refine Br.x_isi (b := false) (.base (.str _)) (by decide +kernel) ?_
  | refine Br.x_isi (b := true) (.base (.tup (by assumption))) (by decide +kernel) ?_ | refine Br.x_isi (b := false) (.base (.tup (by assumption))) (by decide +kernel) ?_
  | refine Br.x_isi (b := true) (.base (.lst (by assumption))) (by decide +kernel) ?_ | refine Br.x_isi (b := false) (.base (.lst (by assumption))) (by decide +kernel) ?_)
local macro_rules | `(tactic| walk_at "f") => `(tactic| (refine L2.iteF ?_; walk_at "x"))
local macro_rules | `(tactic| walk_at "t") => `(tactic| (refine L2.iteT ?_; walk_at "x"))
local macro_rules | `(tactic| walk_at "is") => `(tactic| (walk_at "isi"; walk_at "x"))
local macro_rules | `(tactic| walk_at "xb") => `(tactic| (simp only [Br.bindS, List.set_cons_zero, List.set_cons_succ]; walk_at "x"))

section
variable {P : Program} {w : World} {K : PySem.W.Frag} {mg : Str → Option Value} {base : Heap}

open Br Br.F
theorem menuS {v : V} (h : v ∈ [V.int 1, .int 2, .int 3, .int 4, .int 5, .int 6, .int 7, .int 8, .int 9, .int 10, .int 60, .int 199, .int 200]) : ∃ m : Nat, v = .int (m : Int) ∧ 1 ≤ m ∧ m ≤ 200 := by
  simp only [List.mem_cons, List.not_mem_nil, or_false] at h
  rcases h with rfl | rfl | rfl | rfl | rfl | rfl | rfl | rfl | rfl | rfl | rfl | rfl | rfl
  · exact ⟨1, rfl, by decide, by decide⟩
  · exact ⟨2, rfl, by decide, by decide⟩
  · exact ⟨3, rfl, by decide, by decide⟩
  · exact ⟨4, rfl, by decide, by decide⟩
  · exact ⟨5, rfl, by decide, by decide⟩
  · exact ⟨6, rfl, by decide, by decide⟩
  · exact ⟨7, rfl, by decide, by decide⟩
  · exact ⟨8, rfl, by decide, by decide⟩
  · exact ⟨9, rfl, by decide, by decide⟩
  · exact ⟨10, rfl, by decide, by decide⟩
  · exact ⟨60, rfl, by decide, by decide⟩
  · exact ⟨199, rfl, by decide, by decide⟩
  · exact ⟨200, rfl, by decide, by decide⟩

def sp_law_size (K : PySem.W.Frag) : Sp := fun vs H Q _ => ∃ (d n : Addr), vs = [.ref d] ∧ Dr H d n ∧ RetD d n (fun v => ∃ k : Nat, v = .int (k : Int) ∧ 1 ≤ k ∧ k ≤ 200) H Q
theorem ok_law_size (T : Txt K mg) : FnOk P w K mg base CX0 3 T.a_law_size T.fd_law_size ["draws"] (sp_law_size K) := by
  refine T.F_law_size.ok sc_law_size (fun vs H Q E h => ?_) (fun cdv A outer s H vs Q E hr h => ?_)
  · obtain ⟨d, n, rfl, _⟩ := h
    rfl
  · obtain ⟨d, n, rfl, hD, q⟩ := h
    refine ⟨_, (pss_one (ps_ret (pe_ix (r := rIxL K) ix_list (pe_lst (pa_cons pe_int (pa_cons pe_int (pa_cons pe_int (pa_cons pe_int (pa_cons pe_int (pa_cons pe_int (pa_cons pe_int (pa_cons pe_int (pa_cons pe_int (pa_cons pe_int (pa_cons pe_int (pa_cons pe_int (pa_cons pe_int pa_nil)))))))))))))) (pe_op op_mod (pe_call (ok_law_draw T) hr (by rfl) T.g_law_draw T.F_law_draw.kp T.b_law_draw .nil pass0 (pa_cons (pv 0) pa_nil)) pe_int) (fun _ _ => rfl)))), ?_⟩
    walk_at "start"
    walk_at "x"
    refine ⟨by show 13 ≤ sizeLine; decide, fun u hu => ?_⟩
    have s1 := same_upd (o := .lst [V.int 1, .int 2, .int 3, .int 4, .int 5, .int 6, .int 7, .int 8, .int 9, .int 10, .int 60, .int 199, .int 200]) hu
    have e1 : (upd H u (.lst [V.int 1, .int 2, .int 3, .int 4, .int 5, .int 6, .int 7, .int 8, .int 9, .int 10, .int 60, .int 199, .int 200])) u = _ := upd_same
    have hud := hD.new hu
    have hD1 := hD.same s1
    generalize upd H u (.lst [V.int 1, .int 2, .int 3, .int 4, .int 5, .int 6, .int 7, .int 8, .int 9, .int 10, .int 60, .int 199, .int 200]) = H1 at s1 e1 hD1
    walk_at "x"
    refine ⟨d, n, rfl, hD1, ?_⟩
    rintro _ H2 ⟨y, rfl, y0, y1⟩ hD2 k2
    walk_at "x"
    obtain ⟨b, hv, hm⟩ := at_lt (xs := [V.int 1, .int 2, .int 3, .int 4, .int 5, .int 6, .int 7, .int 8, .int 9, .int 10, .int 60, .int 199, .int 200]) (i := y % 13) (Int.emod_nonneg _ (by decide)) (Int.emod_lt_of_pos y (show (0 : Int) < 13 by decide))
    refine x_ixL (sq_of (k2 _ _ e1 hud)) hv ?_
    exact q _ _ (menuS hm) hD2 ((Same.keep s1).trans k2)

/-- places so far, and those left -/
def PlJ (H0 : Hp) (d nn L o : Addr) (size k : Nat) (H : Hp) : Prop := Dr H d nn ∧ Keep d H0 H ∧ o ≠ d ∧ o ≠ nn ∧ L ≠ d ∧ L ≠ nn ∧ L ≠ o ∧ H0 L = none ∧ ∃ pl left : List Nat, H o = some (.lst (cInts pl)) ∧ H L = some (.lst (cInts left)) ∧ pl.length = k ∧ left.length + k = size ∧ (pl ++ left).Nodup ∧ ∀ p, p ∈ pl ++ left → p < size
theorem pe_bmK {X : Cx} {K2 : PySem.W.Frag} {e : Expr} {T : String} {r : V → List V → Hp → VK → Prop} {to : TE} {t : TA} (hK : X.K = K2) (h : PE X e (tBM X.K T r to t)) : PE X e (tBM K2 T r to t) := by
  subst hK
  exact h
theorem seqIx_nat {n j : Nat} (h : j < n) : seqIndex? (j : Int) n = some j := by
  unfold seqIndex?
  grind
theorem cInts_erase : ∀ (xs : List Nat) (j : Nat), (cInts xs).eraseIdx j = cInts (xs.eraseIdx j)
  | [], _ => rfl
  | x :: xs, 0 => rfl
  | x :: xs, j + 1 => by
    show V.int (x : Int) :: (cInts xs).eraseIdx j = V.int (x : Int) :: cInts (xs.eraseIdx j)
    rw [cInts_erase xs j]
theorem erase_perm_at : ∀ {xs : List Nat} {j y : Nat}, xs[j]? = some y → ([y] ++ xs.eraseIdx j).Perm xs
  | [], _, _, h => by simp at h
  | x :: xs, 0, y, h => by cases h; exact List.Perm.refl _
  | x :: xs, j + 1, y, h => by
    have := erase_perm_at (xs := xs) (j := j) (y := y) h
    show (y :: x :: xs.eraseIdx j).Perm (x :: xs)
    exact (List.Perm.swap x y _).trans (this.cons x)

def sp_law_places (K : PySem.W.Frag) : Sp := fun vs H Q _ => ∃ (d n : Addr) (size c : Nat), vs = [.ref d, .int (size : Int), .int (c : Int)] ∧ c ≤ size ∧ size ≤ 200 ∧ Dr H d n ∧ RetG d n (fun v H' => ∃ (l : Addr) (pl : List Nat), v = .ref l ∧ H l = none ∧ H' l = some (.lst (cInts pl)) ∧ pl.length = c ∧ pl.Nodup ∧ ∀ p, p ∈ pl → p < size) H Q
theorem ok_law_places (T : Txt K mg) : FnOk P w K mg base CX0 3 T.a_law_places T.fd_law_places ["draws", "size", "cells"] (sp_law_places K) := by
  refine T.F_law_places.ok sc_law_places (fun vs H Q E h => ?_) (fun cdv A outer s H vs Q E hr h => ?_)
  · obtain ⟨d, n, size, c, rfl, _⟩ := h
    rfl
  · obtain ⟨d, n, size, c, rfl, hcs, hs2, hD, q⟩ := h
    refine ⟨_, (pss_cons (ps_set (i := 3) sc_law_places.nd rfl (.inr rfl) (pe_lc (own := [("k", 4)]) (g := gName 4) (tt := tYes) rfl sc_law_places.nd (pi_range1 (by rfl) T.m_range (pa_cons (pv 1) pa_nil)) (blkOk_by (N := N_law_places) (sc := defScope s_law_places) (by decide +kernel)) (fun _ _ _ _ _ => (pg_name (i := 4) sc_law_places.nd rfl (Or.inl rfl))) (fun _ _ _ _ _ => pts_nil) (fun _ _ _ _ _ => (pv 4))))
      (pss_one (ps_ret (pe_lc (own := [("k", 4)]) (g := gName 4) (tt := tYes) rfl sc_law_places.nd (pi_range1 (by rfl) T.m_range (pa_cons (pv 2) pa_nil)) (blkOk_by (N := N_law_places) (sc := defScope s_law_places) (by decide +kernel)) (fun _ _ _ _ _ => (pg_name (i := 4) sc_law_places.nd rfl (Or.inl rfl))) (fun _ _ _ _ _ => pts_nil) (fun _ _ _ _ _ => (pe_bmK (K2 := K) rfl (pe_bm PySem.F.plainAttrs_list PySem.F.slot_list_pop PySem.F.type_list_pop mt_popAt (pv 3) (pa_cons (pe_op op_mod (pe_call (ok_law_draw T) hr (by rfl) T.g_law_draw T.F_law_draw.kp T.b_law_draw .nil pass0 (pa_cons (pv 0) pa_nil)) (pe_callB (id := "len") (r := rLen K) cr_len (by rfl) T.m_len PySem.boot_len (pa_cons (pv 3) pa_nil))) pa_nil)))))))), ?_⟩
    walk_at "start"
    walk_at "x"
    refine x_lcR1 (size : Int) (fun o k H' => Same H H' ∧ H' o = some (.lst (cInts (List.range k)))) (fun R r => by walk_at "x"; exact r) (by omega) (by omega) (fun o ho => ⟨same_upd ho, upd_same⟩) (fun x => rfl) ?_ ?_
    · rintro o k H1 ho hk ⟨s, hO⟩
      walk_at "x"
      refine ⟨_, hO, lt_line (by unfold cInts; rw [List.length_map, List.length_range]; omega), sput s ho, ?_⟩
      rw [upd_same]
      unfold cInts
      rw [List.range_succ, List.map_append]
      rfl
    rintro L H1 hL ⟨s1, hLl⟩
    rw [show ((size : Nat) : Int).toNat = size by omega] at hLl
    have hD1 := hD.same s1
    walk_at "x"
    refine x_lcR1 (c : Int) (fun o k H' => PlJ H d n L o size k H') (fun R r => by walk_at "x"; exact r) (by omega) (by omega) (fun o ho => ?_) (fun x => rfl) ?_ ?_
    · have hLo : L ≠ o := ne_of_none hLl ho
      exact ⟨hD1.upd0 ho, (Same.keep s1).trans (Same.keep (same_upd ho)), hD1.new ho, hD1.newN ho, hD.new hL, hD.newN hL, hLo, hL, [], List.range size, upd_same, by rw [upd_ne hLo]; exact hLl, rfl, by rw [List.length_range]; rfl, by show (List.range size).Nodup; exact List.nodup_range, fun p hp => List.mem_range.mp hp⟩
    · rintro o k H2 ho hk ⟨hD2, k2, od, on, Ld, Ln, Lo, hL0, pl, left, hO, hLL, hpl, hll, hnd, hlt⟩
      walk_at "x"
      refine x_tyL hLL ?_
      walk_at "x"
      refine ⟨d, n, rfl, hD2, ?_⟩
      rintro _ H3 ⟨y, rfl, y0, y1⟩ hD3 k3
      have hL3 := k3 _ _ hLL Ld
      have hO3 := k3 _ _ hO od
      have hcl : (cInts left).length = left.length := by unfold cInts; rw [List.length_map]
      walk_at "x"
      refine x_len (sq_of hL3) ?_
      rw [hcl]
      walk_at "x"
      obtain ⟨j, ej, hj⟩ := cast_lt (x := y % (left.length : Int)) (c := left.length) (Int.emod_nonneg y (by omega)) (Int.emod_lt_of_pos y (by omega))
      rw [ej]
      have hlj : left[j]? = some left[j] := List.getElem?_eq_getElem hj
      generalize left[j] = pj at hlj
      refine ⟨L, cInts left, (j : Int), j, .int (pj : Int), rfl, rfl, hL3, by omega, by omega, ?_, ?_, ?_⟩
      · rw [hcl]
        exact seqIx_nat hj
      · show ((left.map fun (c : Nat) => V.int (c : Int)))[j]? = _
        rw [List.getElem?_map, hlj]; rfl
      have e1 : (cInts left).eraseIdx j = cInts (left.eraseIdx j) := cInts_erase left j
      rw [e1]
      refine ⟨cInts pl, by rw [upd_ne Lo.symm]; exact hO3, lt_line (by unfold cInts; rw [List.length_map]; omega), ((hD3.upd Ld Ln).upd od on), kput (kput (k2.trans k3) hL0) (s1.free ho), od, on, Ld, Ln, Lo, hL0, pl ++ [pj], left.eraseIdx j, ?_, by rw [upd_ne Lo, upd_same], by rw [List.length_append, hpl]; rfl, ?_, ?_, ?_⟩
      · rw [upd_same]
        unfold cInts
        rw [List.map_append]; rfl
      · rw [List.length_eraseIdx_of_lt hj]; omega
      · have hperm : (pl ++ [pj] ++ left.eraseIdx j).Perm (pl ++ left) := by
          rw [List.append_assoc]
          exact List.Perm.append_left _ (erase_perm_at hlj)
        exact hperm.nodup_iff.mpr hnd
      · have hperm : (pl ++ [pj] ++ left.eraseIdx j).Perm (pl ++ left) := by
          rw [List.append_assoc]
          exact List.Perm.append_left _ (erase_perm_at hlj)
        exact fun p hp => hlt p (hperm.mem_iff.mp hp)
    · rintro o H2 ho ⟨hD2, k2, od, on, Ld, Ln, Lo, hL0, pl, left, hO, hLL, hpl, hll, hnd, hlt⟩
      refine q _ _ ⟨o, pl, rfl, s1.free ho, hO, by omega, (List.nodup_append.mp hnd).1, fun p hp => hlt p (List.mem_append_left _ hp)⟩ hD2 k2


def StpsJL (H0 : Hp) (m c i : Nat) (d nn o : Addr) (k : Nat) (H : Hp) : Prop := Dr H d nn ∧ Keep d H0 H ∧ o ≠ d ∧ o ≠ nn ∧ ∃ (as : List Addr) (ss : List Stp), H o = some (.lst (as.map V.ref)) ∧ StpsAt H as ss ∧ ss.length = k ∧ ∀ s, s ∈ ss → StpOk m c i s
theorem StpsJL.add {H0 H1 H2 : Hp} {m c i k : Nat} {d nn o b : Addr} {s : Stp} (h : StpsJL H0 m c i d nn o k H1) (ho : H0 o = none) (hD : Dr H2 d nn) (hk : Keep d H1 H2) (hs : StpAt H2 b s) (ok : StpOk m c i s) :
    ∃ acc, H2 o = some (.lst acc) ∧ acc.length = k ∧ StpsJL H0 m c i d nn o (k + 1) (upd H2 o (.lst (acc ++ [V.ref b]))) := by
  obtain ⟨hD1, hk1, hod, hon, as, ss, hO, hS, hl, hok⟩ := h
  have hO2 := hk _ _ hO hod
  have hT : Tups H2 (upd H2 o (.lst (as.map V.ref ++ [V.ref b]))) := (Tups.refl H2).put (no_tupL hO2)
  refine ⟨_, hO2, by rw [List.length_map, hS.1, hl], hD.upd hod hon, kput (hk1.trans hk) ho, hod, hon, as ++ [b], ss ++ [s], by rw [upd_same, List.map_append]; rfl, ((hS.tups (keep_tupsA hk hD1)).tups hT).snoc (hs.tups hT), by rw [List.length_append, hl]; rfl, fun z hz => ?_⟩
  rcases List.mem_append.mp hz with h | h
  · exact hok z h
  · rw [List.mem_singleton.mp h]; exact ok
/-- a drawn loan: cells, inputs, steps, places, inputs' numbers; all its lists new -/
structure LoanD (H0 H : Hp) (size m : Nat) (l S P G : Addr) (as : List Addr) (ss : List Stp) (c i : Nat) (pl : List Nat) (gv : List Int) : Prop where
  hl : H l = some (.lst [.int (c : Int), .int (i : Int), .ref S, .ref P, .ref G])
  hs : H S = some (.lst (as.map V.ref))
  st : StpsAt H as ss
  ok : PrOk ss m c i
  hp : H P = some (.lst (cInts pl))
  len : pl.length = c
  nd : pl.Nodup
  lt : ∀ k, k ∈ pl → k < size
  hg : H G = some (.lst (gv.map V.int))
  hgv : Mem m i gv
  small : ss.length ≤ 7
  cs : c ≤ 5
  is_ : i ≤ 2
  fl : H0 l = none
  fs : H0 S = none
  fp : H0 P = none
  fg : H0 G = none

def sp_law_loan (K : PySem.W.Frag) : Sp := fun vs H Q _ => ∃ (d n : Addr) (m size : Nat), vs = [.ref d, .int (m : Int), .int (size : Int)] ∧ 2 ≤ m ∧ m ≤ 1000000000 ∧ 1 ≤ size ∧ size ≤ 200 ∧ Dr H d n ∧
  RetG d n (fun v H' => ∃ (l S P G : Addr) (as : List Addr) (ss : List Stp) (c i : Nat) (pl : List Nat) (gv : List Int), v = .ref l ∧ LoanD H H' size m l S P G as ss c i pl gv) H Q
theorem ok_law_loan (T : Txt K mg) : FnOk P w K mg base CX0 6 T.a_law_loan T.fd_law_loan ["draws", "modulus", "size"] (sp_law_loan K) := by
  refine T.F_law_loan.ok sc_law_loan (fun vs H Q E h => ?_) (fun cdv A outer s H vs Q E hr h => ?_)
  · obtain ⟨d, n, m, size, rfl, _⟩ := h
    rfl
  · obtain ⟨d, n, m, size, rfl, m2, m9, n1, n2, hD, q⟩ := h
    refine ⟨_, (pss_cons (ps_set (i := 3) sc_law_loan.nd rfl (.inr rfl) (pe_op op_add pe_int (pe_op op_mod (pe_call (ok_law_draw T) (hr.mono (by decide)) (by rfl) T.g_law_draw T.F_law_draw.kp T.b_law_draw .nil pass0 (pa_cons (pv 0) pa_nil)) (pe_callB (id := "min") (r := rMin2) (cr_min2 rfl) (by rfl) T.m_min (by decide +kernel) (pa_cons pe_int (pa_cons (pv 2) pa_nil))))))
      (pss_cons (ps_set (i := 4) sc_law_loan.nd rfl (.inr rfl) (pe_op op_mod (pe_call (ok_law_draw T) (hr.mono (by decide)) (by rfl) T.g_law_draw T.F_law_draw.kp T.b_law_draw .nil pass0 (pa_cons (pv 0) pa_nil)) pe_int))
      (pss_cons (ps_setLc (i := 5) (own := [("k", 7)]) (g := gName 7) (tt := tYes) rfl sc_law_loan.nd rfl rfl (sw_true rfl rfl rfl (by decide +kernel)) (pi_range1 (by rfl) T.m_range (pa_cons (pe_op op_mod (pe_call (ok_law_draw T) (hr.mono (by decide)) (by rfl) T.g_law_draw T.F_law_draw.kp T.b_law_draw .nil pass0 (pa_cons (pv 0) pa_nil)) pe_int) pa_nil)) (blkOk_by (N := N_law_loan) (sc := defScope s_law_loan) (by decide +kernel)) (fun _ _ _ _ _ => (pg_name (i := 7) sc_law_loan.nd rfl (Or.inl rfl))) (fun _ _ _ _ _ => pts_nil) (fun _ _ _ _ _ => (pe_call (ok_law_step T) hr (by rfl) T.g_law_step T.F_law_step.kp T.b_law_step .nil pass0 (pa_cons (pv 0) (pa_cons (pv 1) (pa_cons (pv 3) (pa_cons (pv 4) pa_nil)))))))
      (pss_cons (ps_setLc (i := 6) (own := [("k", 7)]) (g := gName 7) (tt := tYes) rfl sc_law_loan.nd rfl rfl (sw_true rfl rfl rfl (by decide +kernel)) (pi_range1 (by rfl) T.m_range (pa_cons (pv 4) pa_nil)) (blkOk_by (N := N_law_loan) (sc := defScope s_law_loan) (by decide +kernel)) (fun _ _ _ _ _ => (pg_name (i := 7) sc_law_loan.nd rfl (Or.inl rfl))) (fun _ _ _ _ _ => pts_nil) (fun _ _ _ _ _ => (pe_call (ok_law_number T) (hr.mono (by decide)) (by rfl) T.g_law_number T.F_law_number.kp T.b_law_number .nil pass0 (pa_cons (pv 0) (pa_cons (pv 1) pa_nil)))))
      (pss_one (ps_ret (pe_lst (pa_cons (pv 3) (pa_cons (pv 4) (pa_cons (pv 5) (pa_cons (pe_call (ok_law_places T) (hr.mono (by decide)) (by rfl) T.g_law_places T.F_law_places.kp T.b_law_places .nil pass0 (pa_cons (pv 0) (pa_cons (pv 2) (pa_cons (pv 3) pa_nil)))) (pa_cons (pv 6) pa_nil)))))))))))), ?_⟩
    walk_at "start"
    walk_at "x"
    refine ⟨d, n, rfl, hD, ?_⟩
    rintro _ H1 ⟨y, rfl, y0, y1⟩ hD1 k1
    walk_at "x"
    obtain ⟨c, ec, c1, c5, cs⟩ : ∃ c : Nat, 1 + y % (if (size : Int) < 5 then (size : Int) else 5) = (c : Int) ∧ 1 ≤ c ∧ c ≤ 5 ∧ c ≤ size := by
      split
      · have a := Int.emod_nonneg y (show (size : Int) ≠ 0 by omega)
        have b := Int.emod_lt_of_pos y (show 0 < (size : Int) by omega)
        exact ⟨(1 + y % (size : Int)).toNat, by omega, by omega, by omega, by omega⟩
      · exact ⟨(1 + y % 5).toNat, by omega, by omega, by omega, by omega⟩
    rw [ec]
    refine ⟨d, n, rfl, hD1, ?_⟩
    rintro _ H2 ⟨x, rfl, x0, x1⟩ hD2 k2
    have k2 := k1.trans k2
    walk_at "x"
    obtain ⟨i, ei, i9⟩ : ∃ i : Nat, x % 3 = (i : Int) ∧ i ≤ 2 := ⟨(x % 3).toNat, by omega, by omega⟩
    rw [ei]
    refine x_lcPreA ?_
    walk_at "x"
    refine ⟨d, n, rfl, hD2, ?_⟩
    rintro _ H3 ⟨z, rfl, z0, z1⟩ hD3 k3
    have k3 := k2.trans k3
    walk_at "x"
    refine x_lcR1 (z % 8) (fun o k H' => StpsJL H3 m c i d n o k H') (fun R r => r) (by omega) (by omega) (fun o ho => ⟨hD3.upd0 ho, Same.keep (same_upd ho), hD3.new ho, hD3.newN ho, [], [], upd_same, ⟨rfl, fun j x b h _ => by simp at h⟩, rfl, fun s h => by simp at h⟩) (fun x => rfl) ?_ ?_
    · rintro o k H8 ho hk hJ
      walk_at "x"
      refine ⟨d, n, m, c, i, rfl, m2, m9, c1, by omega, by omega, hJ.1, ?_⟩
      rintro _ H9 ⟨b, s, rfl, hs, oks⟩ hD9 k9
      obtain ⟨acc, e1, e2, h3⟩ := hJ.add ho hD9 k9 hs oks
      exact ⟨acc, e1, lt_line (by omega), h3⟩
    rintro S H4 hS ⟨hD4, k4, hsd, hsn, as, ss, hO, hSt, hSl, hok⟩
    have okp : PrOk ss m c i := ⟨m2, m9, c1, by omega, by omega, by omega, hok⟩
    have hS0 : H S = none := k3.free hD3 hS
    have k04 := k3.trans k4
    walk_at "x"
    refine x_lcR1 (i : Int) (fun o k H' => Dr H' d n ∧ Keep d H4 H' ∧ o ≠ d ∧ o ≠ n ∧ ∃ gv : List Int, H' o = some (.lst (gv.map V.int)) ∧ gv.length = k ∧ Rg 0 m gv) (fun R r => by walk_at "x"; exact r) (by omega) (by omega) (fun o ho => ⟨hD4.upd0 ho, Same.keep (same_upd ho), hD4.new ho, hD4.newN ho, [], upd_same, rfl, .nil⟩) (fun x => rfl) ?_ ?_
    · rintro o k H5 ho hk ⟨hD5, k5, od, on, gv, hOg, hgl, hgr⟩
      walk_at "x"
      refine ⟨d, n, (m : Int), rfl, by omega, hD5, ?_⟩
      rintro _ H6 ⟨w, rfl, w0, w1⟩ hD6 k6
      refine ⟨_, k6 _ _ hOg od, lt_line (by rw [List.length_map]; omega), hD6.upd od on, kput (k5.trans k6) ho, od, on, gv ++ [w], by rw [upd_same, List.map_append]; rfl, by rw [List.length_append, hgl]; rfl, hgr.snoc w0 w1⟩
    rintro G H5 hG ⟨hD5, k5, gd, gn, gv, hGg, hgl, hgr⟩
    have hG0 : H G = none := k04.free hD4 hG
    have k05 := k04.trans k5
    have hgm : Mem m i gv := ⟨by omega, hgr⟩
    walk_at "x"
    refine ⟨d, n, size, c, rfl, cs, n2, hD5, ?_⟩
    rintro _ H6 ⟨P, pl, rfl, hP0, hPl, hpl, hpn, hpt⟩ hD6 k6
    walk_at "x"
    refine ⟨by show 5 ≤ sizeLine; decide, fun l hl => ?_⟩
    have u := same_upd (o := .lst [.int (c : Int), .int (i : Int), .ref S, .ref P, .ref G]) hl
    have hO6 := k6 _ _ (k5 _ _ hO hsd) hsd
    refine q _ _ ⟨l, S, P, G, as, ss, c, i, pl, gv, rfl, upd_same, u _ _ hO6, (hSt.tups (keep_tupsA (k5.trans k6) hD4)).tups (Tups.same u), okp, u _ _ hPl, hpl, hpn, hpt, u _ _ (k6 _ _ hGg gd), hgm, by omega, c5, i9, (k05.trans k6).free hD6 hl, hS0, k05.free hD5 hP0, hG0⟩ (hD6.same u) ((k05.trans k6).trans (Same.keep u))


end
end Br
namespace Br
open PySem PySem.Spec PyProof.Rows L2
local macro_rules | `(tactic| walk_at "x1") => `(tactic| (with_reducible first
  | refine Br.x_seq ?_ | refine Br.x_set ?_ | refine Br.x_asg ?_ | refine Br.x_next ?_ | refine Br.x_ret ?_ | refine Br.x_retN ?_ | refine Br.x_drop ?_ | refine Br.x_if ?_ | refine Br.x_brk ?_ | refine Br.x_cont ?_
  | refine Br.x_c ?_ | refine Br.x_op ?_ | refine Br.x_un ?_ | refine Br.x_I0 ?_ | refine Br.x_U ?_ | refine Br.x_EqI ?_ | refine Br.x_NeI ?_ | refine Br.x_EqB ?_ | refine Br.x_iN ?_ | refine Br.x_int1 ?_ | refine Br.x_min2 ?_ | refine Br.x_max2 ?_ | refine Br.x_nN ?_ | refine Br.x_ifE ?_
  | refine Br.x_test (b := ()) ?_ | refine Br.x_tB ?_ | refine Br.x_bl ?_ | refine Br.x_and ?_ | refine Br.x_or ?_ | refine Br.x_not ?_ | refine Br.x_andV ?_ | refine Br.x_orV ?_ | refine Br.x_notV ?_ | refine Br.x_blP ?_
  | refine Br.x_nil ?_ | refine Br.x_cons ?_ | refine Br.x_call ?_ | refine Br.x_CB ?_ | refine Br.x_BM ?_ | refine Br.x_tup ?_ | refine Br.x_lst ?_ | refine Br.x_chain ?_ | refine Br.x_par ?_ | refine Br.x_gSub ?_ | refine Br.x_gName ?_ | refine Br.x_fld ?_ | refine Br.x_fldS ?_ | refine Br.x_match ?_ | refine Br.x_else ?_ | refine Br.x_noCase ?_))
local macro_rules | `(tactic| walk_at "xv") => `(tactic| ((with_reducible refine' Br.x_var ?hvar ?_); (case hvar => rfl)))
local macro_rules | `(tactic| walk_at "xd") => `(tactic| (dsimp only [List.set_cons_zero, List.set_cons_succ, List.cons_append, List.nil_append, List.append_nil]))
local macro_rules | `(tactic| walk_at "xi") => `(tactic| ((with_reducible refine Br.x_I ?hside ?_); (case hside => first | exact Br.mul_r (by decide) (by decide) | exact Br.mul_l (by decide) (by decide) | exact Br.mul_l (by omega) (by omega) | exact Br.mul_r (by omega) (by omega) | (show (0 : Int) < _; first | decide | omega) | exact ⟨by decide, by decide⟩ | exact ⟨by omega, by omega⟩ | exact ⟨by decide, by decide, by decide⟩)))
local macro_rules | `(tactic| walk_at "x") => `(tactic| (repeat (first | walk_at "x1" | walk_at "xv" | walk_at "xi" | walk_at "xd")))
local macro_rules | `(tactic| walk_at "start") => `(tactic| (simp only [L2.start, List.map_cons, List.map_nil, List.length_cons, List.length_nil, Nat.reduceAdd, Nat.reduceSub, List.replicate, List.cons_append, List.nil_append, List.append_nil]))
local macro_rules | `(tactic| walk_at "isi") => `(tactic| first
  | refine Br.x_isi (b := true) (.base (.int _)) (by decide +kernel) ?_ | refine Br.x_isi (b := false) (.base (.int _)) (by decide +kernel) ?_
  | refine Br.x_isi (b := true) (.base (.bl _)) (by decide +kernel) ?_ | refine Br.x_isi (b := false) (.base (.bl _)) (by decide +kernel) ?_
  | refine Br.x_isi (b := false) (.base .non) (by decide +kernel) ?_
  | refine Br.x_isi (b := true) (.base (.str _)) (by decide +kernel) ?_ | refine Br.x_isi (b := false) (.base (.str _)) (by decide +kernel) ?_
  | refine Br.x_isi (b := true) (.base (.tup (by assumption))) (by decide +kernel) ?_ | refine Br.x_isi (b := false) (.base (.tup (by assumption))) (by decide +kernel) ?_
  | refine Br.x_isi (b := true) (.base (.lst (by assumption))) (by decide +kernel) ?_ | refine Br.x_isi (b := false) (.base (.lst (by assumption))) (by decide +kernel) ?_)
local macro_rules | `(tactic| walk_at "f") => `(tactic| (refine L2.iteF ?_; walk_at "x"))
local macro_rules | `(tactic| walk_at "t") => `(tactic| (refine L2.iteT ?_; walk_at "x"))
local macro_rules | `(tactic| walk_at "is") => `(tactic| (walk_at "isi"; walk_at "x"))
local macro_rules | `(tactic| walk_at "xb") => `(tactic| (simp only [Br.bindS, List.set_cons_zero, List.set_cons_succ]; walk_at "x"))

section
variable {P : Program} {w : World} {K : PySem.W.Frag} {mg : Str → Option Value} {base : Heap}


def sp_law_equal (n : Nat) (K : PySem.W.Frag) : Sp := fun vs H Q _ => ∃ v u, vs = [v, u] ∧ Eqv K H n v u ∧ Q (.bl true) H
def sp_law_all_equal (n : Nat) (K : PySem.W.Frag) : Sp := fun vs H Q _ => ∃ (a b : Addr) (xs ys : List V), vs = [.ref a, .ref b] ∧ ((H a = some (.lst xs) ∧ H b = some (.lst ys)) ∨ (H a = some (.tup xs) ∧ H b = some (.tup ys))) ∧ xs.length = ys.length ∧ ys.length ≤ 100000 ∧ (∀ (i : Nat) x y, xs[i]? = some x → ys[i]? = some y → Eqv K H n x y) ∧ Q (.bl true) H
theorem x_ixQ {K : PySem.W.Frag} {H : Hp} {a b : Addr} {xs ys : List V} {i : Int} {v : V} {Q : VK} (h : (H a = some (.lst xs) ∧ H b = some (.lst ys)) ∨ (H a = some (.tup xs) ∧ H b = some (.tup ys))) (hi : atI xs i = some v) (q : Q v H) : rIx K (.ref a) (.int i) H Q := by
  rcases h with h | h
  · exact .inl (x_ixL (sq_of h.1) hi q)
  · exact .inr (.inl (x_ixT (st_of h.1) hi q))
theorem x_ixQ2 {K : PySem.W.Frag} {H : Hp} {a b : Addr} {xs ys : List V} {i : Int} {v : V} {Q : VK} (h : (H a = some (.lst xs) ∧ H b = some (.lst ys)) ∨ (H a = some (.tup xs) ∧ H b = some (.tup ys))) (hi : atI ys i = some v) (q : Q v H) : rIx K (.ref b) (.int i) H Q := by
  rcases h with h | h
  · exact .inl (x_ixL (sq_of h.2) hi q)
  · exact .inr (.inl (x_ixT (st_of h.2) hi q))
theorem all_equal_of (T : Txt K mg) (n : Nat) (G_law_equal : FnOk P w K mg base CX0 (2 * n + 1) T.a_law_equal T.fd_law_equal ["actual", "due"] (sp_law_equal n K)) : FnOk P w K mg base CX0 (2 * n + 2) T.a_law_all_equal T.fd_law_all_equal ["actual", "due"] (sp_law_all_equal n K) := by
  refine T.F_law_all_equal.ok sc_law_all_equal (fun vs H Q E h => ?_) (fun cdv A outer s H vs Q E hr h => ?_)
  · obtain ⟨a, b, xs, ys, rfl, _⟩ := h
    rfl
  · obtain ⟨a, b, xs, ys, rfl, hab, hl, hz, he, q⟩ := h
    refine ⟨_, (pss_cons (ps_for PassesOwn.never rfl (pi_range1 (by rfl) T.m_range (pa_cons (pe_callB (id := "len") (r := rLen K) cr_len (by rfl) T.m_len PySem.boot_len (pa_cons (pv 1) pa_nil)) pa_nil)) (pg_name (i := 2) sc_law_all_equal.nd rfl (Or.inl rfl))
      (pss_one (ps_if (pt_not (pt_val (pe_call G_law_equal (hr.mono (by omega)) (by rfl) T.g_law_equal T.F_law_equal.kp T.b_law_equal .nil pass0 (pa_cons (pe_ix (r := rIx K) ix_seq (pv 0) (pv 2) (fun _ _ => rfl)) (pa_cons (pe_ix (r := rIx K) ix_seq (pv 1) (pv 2) (fun _ _ => rfl)) pa_nil)))))
      (pss_one (ps_ret pe_bl))
      pss_nil)))
      (pss_one (ps_ret pe_bl))), ?_⟩
    walk_at "start"
    refine x_forR1 (ys.length : Int) (fun i σ' H' => H = H' ∧ ∃ v2, σ' = [some (.ref a), some (.ref b), v2]) (fun R r => by
      walk_at "x"
      rcases hab with h | h
      · refine x_len (sq_of h.2) ?_
        exact r
      · refine x_lenT (st_of h.2) ?_
        exact r) (by omega) (by omega) ⟨rfl, _, rfl⟩ ?_ ?_
    · rintro i σ' H' hi ⟨rfl, v2, rfl⟩
      obtain ⟨x, gx⟩ : ∃ x, xs[i]? = some x := ⟨_, List.getElem?_eq_getElem (by omega)⟩
      obtain ⟨y, gy⟩ : ∃ y, ys[i]? = some y := ⟨_, List.getElem?_eq_getElem (by omega)⟩
      walk_at "x"
      refine x_ixQ hab (atI_nat gx) ?_
      walk_at "x"
      refine x_ixQ2 hab (atI_nat gy) ?_
      walk_at "x"
      refine ⟨x, y, rfl, he i x y gx gy, ?_⟩
      walk_at "x"
      walk_at "f"
      exact ⟨rfl, _, rfl⟩
    · rintro σ' H' ⟨rfl, v2, rfl⟩
      walk_at "x"
      exact q
theorem ok_law_equal (T : Txt K mg) : ∀ n : Nat, FnOk P w K mg base CX0 (2 * n + 1) T.a_law_equal T.fd_law_equal ["actual", "due"] (sp_law_equal n K)
  | 0 => by
    refine T.F_law_equal.ok sc_law_equal (fun vs H Q E h => ?_) (fun cdv A outer s H vs Q E hr h => ?_)
    · obtain ⟨v, u, rfl, h, _⟩ := h
      exact h.elim
    · obtain ⟨v, u, rfl, h, _⟩ := h
      exact h.elim
  | n + 1 => by
    have G_law_all_equal := all_equal_of T n (ok_law_equal T n)
    refine T.F_law_equal.ok (k := 2 * n + 2) sc_law_equal (fun vs H Q E h => ?_) (fun cdv A outer s H vs Q E hr h => ?_)
    · obtain ⟨v, u, rfl, _⟩ := h
      rfl
    · obtain ⟨v, u, rfl, h, q⟩ := h
      refine ⟨_, (pss_cons (ps_if (pt_val (pe_callB (id := "isinstance") (r := rIsi K) call_isi (by rfl) T.m_isinstance (by decide +kernel) (pa_cons (pv 1) (pa_cons (pe_bltn (v := .ty "list") (by rfl) T.m_list (by decide +kernel) rfl) pa_nil))))
      (pss_cons (ps_if (PW.pt (pw_or (pt_not (pt_val (pe_callB (id := "isinstance") (r := rIsi K) call_isi (by rfl) T.m_isinstance (by decide +kernel) (pa_cons (pv 0) (pa_cons (pe_bltn (v := .ty "list") (by rfl) T.m_list (by decide +kernel) rfl) pa_nil))))) (pw_or1 (pt_cmpR op_ne (pe_callB (id := "len") (r := rLen K) cr_len (by rfl) T.m_len PySem.boot_len (pa_cons (pv 0) pa_nil)) (pe_callB (id := "len") (r := rLen K) cr_len (by rfl) T.m_len PySem.boot_len (pa_cons (pv 1) pa_nil)) (nomark _)))))
      (pss_one (ps_ret pe_bl))
      pss_nil)
      (pss_one (ps_ret (pe_call G_law_all_equal (hr.mono (by omega)) (by rfl) T.g_law_all_equal T.F_law_all_equal.kp T.b_law_all_equal .nil pass0 (pa_cons (pv 0) (pa_cons (pv 1) pa_nil))))))
      pss_nil)
      (pss_cons (ps_if (pt_val (pe_callB (id := "isinstance") (r := rIsi K) call_isi (by rfl) T.m_isinstance (by decide +kernel) (pa_cons (pv 1) (pa_cons (pe_bltn (v := .ty "tuple") (by rfl) T.m_tuple (by decide +kernel) rfl) pa_nil))))
      (pss_cons (ps_if (PW.pt (pw_or (pt_not (pt_val (pe_callB (id := "isinstance") (r := rIsi K) call_isi (by rfl) T.m_isinstance (by decide +kernel) (pa_cons (pv 0) (pa_cons (pe_bltn (v := .ty "tuple") (by rfl) T.m_tuple (by decide +kernel) rfl) pa_nil))))) (pw_or1 (pt_cmpR op_ne (pe_callB (id := "len") (r := rLen K) cr_len (by rfl) T.m_len PySem.boot_len (pa_cons (pv 0) pa_nil)) (pe_callB (id := "len") (r := rLen K) cr_len (by rfl) T.m_len PySem.boot_len (pa_cons (pv 1) pa_nil)) (nomark _)))))
      (pss_one (ps_ret pe_bl))
      pss_nil)
      (pss_one (ps_ret (pe_call G_law_all_equal (hr.mono (by omega)) (by rfl) T.g_law_all_equal T.F_law_all_equal.kp T.b_law_all_equal .nil pass0 (pa_cons (pv 0) (pa_cons (pv 1) pa_nil))))))
      pss_nil)
      (pss_cons (ps_if (pt_val (pe_callB (id := "isinstance") (r := rIsi K) call_isi (by rfl) T.m_isinstance (by decide +kernel) (pa_cons (pv 1) (pa_cons (pe_bltn (v := .ty "bool") (by rfl) T.m_bool (by decide +kernel) rfl) pa_nil))))
      (pss_one (ps_ret (pe_and (pe_callB (id := "isinstance") (r := rIsi K) call_isi (by rfl) T.m_isinstance (by decide +kernel) (pa_cons (pv 0) (pa_cons (pe_bltn (v := .ty "bool") (by rfl) T.m_bool (by decide +kernel) rfl) pa_nil))) (pe_one (pe_cmpR op_eq (pv 0) (pv 1) (nomark _))))))
      pss_nil)
      (pss_cons (ps_if (pt_val (pe_callB (id := "isinstance") (r := rIsi K) call_isi (by rfl) T.m_isinstance (by decide +kernel) (pa_cons (pv 1) (pa_cons (pe_bltn (v := .ty "int") (by rfl) T.m_int (by decide +kernel) rfl) pa_nil))))
      (pss_one (ps_ret (pe_and (pe_callB (id := "isinstance") (r := rIsi K) call_isi (by rfl) T.m_isinstance (by decide +kernel) (pa_cons (pv 0) (pa_cons (pe_bltn (v := .ty "int") (by rfl) T.m_int (by decide +kernel) rfl) pa_nil))) (pe_and (pe_not (pe_callB (id := "isinstance") (r := rIsi K) call_isi (by rfl) T.m_isinstance (by decide +kernel) (pa_cons (pv 0) (pa_cons (pe_bltn (v := .ty "bool") (by rfl) T.m_bool (by decide +kernel) rfl) pa_nil)))) (pe_one (pe_cmpR op_eq (pv 0) (pv 1) (nomark _)))))))
      pss_nil)
      (pss_cons (ps_if (pt_val (pe_callB (id := "isinstance") (r := rIsi K) call_isi (by rfl) T.m_isinstance (by decide +kernel) (pa_cons (pv 1) (pa_cons (pe_bltn (v := .ty "str") (by rfl) T.m_str (by decide +kernel) rfl) pa_nil))))
      (pss_one (ps_ret (pe_and (pe_callB (id := "isinstance") (r := rIsi K) call_isi (by rfl) T.m_isinstance (by decide +kernel) (pa_cons (pv 0) (pa_cons (pe_bltn (v := .ty "str") (by rfl) T.m_str (by decide +kernel) rfl) pa_nil))) (pe_one (pe_cmpR op_eq (pv 0) (pv 1) (nomark _))))))
      pss_nil)
      (pss_one (ps_ret (pe_cmpR op_isN1 (pv 0) pe_non (nomark _))))))))), ?_⟩
      walk_at "start"
      rcases h with ⟨i, rfl, rfl⟩ | ⟨z, rfl, rfl⟩ | ⟨z, rfl, rfl⟩ | ⟨rfl, rfl⟩ | ⟨a, b, xs, ys, rfl, rfl, hab, hl, hz, he⟩
      · walk_at "x"
        walk_at "is"
        walk_at "f"
        walk_at "is"
        walk_at "f"
        walk_at "is"
        walk_at "f"
        walk_at "is"
        walk_at "t"
        walk_at "is"
        walk_at "t"
        walk_at "is"
        walk_at "t"
        rw [decide_eq_true rfl]
        exact q
      · walk_at "x"
        walk_at "is"
        walk_at "f"
        walk_at "is"
        walk_at "f"
        walk_at "is"
        walk_at "f"
        walk_at "is"
        walk_at "f"
        walk_at "is"
        walk_at "t"
        walk_at "is"
        walk_at "t"
        refine x_Eq rfl ?_
        rw [decide_eq_true rfl]
        exact q
      · walk_at "x"
        walk_at "is"
        walk_at "f"
        walk_at "is"
        walk_at "f"
        walk_at "is"
        walk_at "t"
        walk_at "is"
        walk_at "t"
        rw [decide_eq_true rfl]
        exact q
      · walk_at "x"
        walk_at "is"
        walk_at "f"
        walk_at "is"
        walk_at "f"
        walk_at "is"
        walk_at "f"
        walk_at "is"
        walk_at "f"
        walk_at "is"
        walk_at "f"
        rw [decide_eq_true rfl]
        exact q
      · rcases id hab with ⟨h1, h2⟩ | ⟨h1, h2⟩
        · walk_at "x"
          walk_at "is"
          walk_at "t"
          walk_at "is"
          walk_at "f"
          refine x_len (sq_of h1) ?_
          walk_at "x"
          refine x_len (sq_of h2) ?_
          walk_at "x"
          rw [hl, decide_eq_true rfl]
          walk_at "f"
          exact ⟨a, b, xs, ys, rfl, hab, hl, hz, he, q⟩
        · walk_at "x"
          walk_at "is"
          walk_at "f"
          walk_at "is"
          walk_at "t"
          walk_at "is"
          walk_at "f"
          refine x_lenT (st_of h1) ?_
          walk_at "x"
          refine x_lenT (st_of h2) ?_
          walk_at "x"
          rw [hl, decide_eq_true rfl]
          walk_at "f"
          exact ⟨a, b, xs, ys, rfl, hab, hl, hz, he, q⟩


end
end Br
namespace Br
open PySem PySem.Spec PyProof.Rows L2
local macro_rules | `(tactic| walk_at "x1") => `(tactic| (with_reducible first
  | refine Br.x_seq ?_ | refine Br.x_set ?_ | refine Br.x_asg ?_ | refine Br.x_next ?_ | refine Br.x_ret ?_ | refine Br.x_retN ?_ | refine Br.x_drop ?_ | refine Br.x_if ?_ | refine Br.x_brk ?_ | refine Br.x_cont ?_
  | refine Br.x_c ?_ | refine Br.x_op ?_ | refine Br.x_un ?_ | refine Br.x_I0 ?_ | refine Br.x_U ?_ | refine Br.x_EqI ?_ | refine Br.x_NeI ?_ | refine Br.x_EqB ?_ | refine Br.x_iN ?_ | refine Br.x_int1 ?_ | refine Br.x_min2 ?_ | refine Br.x_max2 ?_ | refine Br.x_nN ?_ | refine Br.x_ifE ?_
  | refine Br.x_test (b := ()) ?_ | refine Br.x_tB ?_ | refine Br.x_bl ?_ | refine Br.x_and ?_ | refine Br.x_or ?_ | refine Br.x_not ?_ | refine Br.x_andV ?_ | refine Br.x_orV ?_ | refine Br.x_notV ?_ | refine Br.x_blP ?_
  | refine Br.x_nil ?_ | refine Br.x_cons ?_ | refine Br.x_call ?_ | refine Br.x_CB ?_ | refine Br.x_BM ?_ | refine Br.x_tup ?_ | refine Br.x_lst ?_ | refine Br.x_chain ?_ | refine Br.x_par ?_ | refine Br.x_gSub ?_ | refine Br.x_gName ?_ | refine Br.x_fld ?_ | refine Br.x_fldS ?_ | refine Br.x_match ?_ | refine Br.x_else ?_ | refine Br.x_noCase ?_))
local macro_rules | `(tactic| walk_at "xv") => `(tactic| ((with_reducible refine' Br.x_var ?hvar ?_); (case hvar => rfl)))
local macro_rules | `(tactic| walk_at "xd") => `(tactic| (dsimp only [List.set_cons_zero, List.set_cons_succ, List.cons_append, List.nil_append, List.append_nil]))
local macro_rules | `(tactic| walk_at "xi") => `(tactic| ((with_reducible refine Br.x_I ?hside ?_); (case hside => first | exact Br.mul_r (by decide) (by decide) | exact Br.mul_l (by decide) (by decide) | exact Br.mul_l (by omega) (by omega) | exact Br.mul_r (by omega) (by omega) | (show (0 : Int) < _; first | decide | omega) | exact ⟨by decide, by decide⟩ | exact ⟨by omega, by omega⟩ | exact ⟨by decide, by decide, by decide⟩)))
local macro_rules | `(tactic| walk_at "x") => `(tactic| (repeat (first | walk_at "x1" | walk_at "xv" | walk_at "xi" | walk_at "xd")))
local macro_rules | `(tactic| walk_at "start") => `(tactic| (simp only [L2.start, List.map_cons, List.map_nil, List.length_cons, List.length_nil, Nat.reduceAdd, Nat.reduceSub, List.replicate, List.cons_append, List.nil_append, List.append_nil]))
local macro_rules | `(tactic| walk_at "isi") => `(tactic| first
  | refine Br.x_isi (b := true) (.base (.int _)) (by decide +kernel) ?_ | refine Br.x_isi (b := false) (.base (.int _)) (by decide +kernel) ?_
  | refine Br.x_isi (b := true) (.base (.bl _)) (by decide +kernel) ?_ | refine Br.x_isi (b := false) (.base (.bl _)) (by decide +kernel) ?_
  | refine Br.x_isi (b := false) (.base .non) (by decide +kernel) ?_
  | refine Br.x_isi (b := true) (.base (.str _)) (by decide +kernel) ?_ | refine Br.x_isi (b := false) (.base (.str _)) (by decide +kernel) ?_
  | refine Br.x_isi (b := true) (.base (.tup (by assumption))) (by decide +kernel) ?_ | refine Br.x_isi (b := false) (.base (.tup (by assumption))) (by decide +kernel) ?_
  | refine Br.x_isi (b := true) (.base (.lst (by assumption))) (by decide +kernel) ?_ | refine Br.x_isi (b := false) (.base (.lst (by assumption))) (by decide +kernel) ?_)
local macro_rules | `(tactic| walk_at "f") => `(tactic| (refine L2.iteF ?_; walk_at "x"))
local macro_rules | `(tactic| walk_at "t") => `(tactic| (refine L2.iteT ?_; walk_at "x"))
local macro_rules | `(tactic| walk_at "is") => `(tactic| (walk_at "isi"; walk_at "x"))
local macro_rules | `(tactic| walk_at "xb") => `(tactic| (simp only [Br.bindS, List.set_cons_zero, List.set_cons_succ]; walk_at "x"))

section
variable {P : Program} {w : World} {K : PySem.W.Frag} {mg : Str → Option Value} {base : Heap}

open Br Br.F
/-- what is put in where a number should stand -/
def BadV (h : Nat) (v : V) : Prop := v ∈ [V.int (h : Int), .int (-1), .bl true, .non, .str "0", .int (1 * 2 ^ Int.toNat 40)]
def FlV (v : V) : Prop := (∀ H : Hp, Odd H v) ∧ ∀ d : Addr, v ≠ .ref d
theorem FlV.int (i : Int) : FlV (.int i) := ⟨fun _ => .int i, fun _ z => by cases z⟩
theorem BadV.flat {h : Nat} {v : V} (b : BadV h v) (h9 : h ≤ 1000000000) : FlV v ∧ isB v (h : Int) = false := by
  unfold BadV at b
  have e40 : (1 * 2 ^ Int.toNat 40 : Int) = 1099511627776 := by decide
  rw [e40] at b
  simp only [List.mem_cons, List.not_mem_nil, or_false] at b
  rcases b with rfl | rfl | rfl | rfl | rfl | rfl
  · exact ⟨FlV.int _, by show (decide (0 ≤ (h : Int)) && decide ((h : Int) < (h : Int))) = false; rw [decide_eq_false (show ¬ (h : Int) < (h : Int) by omega), Bool.and_false]⟩
  · exact ⟨FlV.int _, rfl⟩
  · exact ⟨⟨fun _ => .bl _, fun _ z => by cases z⟩, rfl⟩
  · exact ⟨⟨fun _ => .non, fun _ z => by cases z⟩, rfl⟩
  · exact ⟨⟨fun _ => .str _, fun _ z => by cases z⟩, rfl⟩
  · refine ⟨FlV.int _, ?_⟩
    show (decide ((0 : Int) ≤ 1099511627776) && decide ((1099511627776 : Int) < (h : Int))) = false
    rw [decide_eq_false (show ¬ (1099511627776 : Int) < (h : Int) by omega), Bool.and_false]

def sp_law_bad (K : PySem.W.Frag) : Sp := fun vs H Q _ => ∃ (d n : Addr) (h : Nat), vs = [.ref d, .int (h : Int)] ∧ Dr H d n ∧ RetD d n (BadV h) H Q
theorem ok_law_bad (T : Txt K mg) : FnOk P w K mg base CX0 3 T.a_law_bad T.fd_law_bad ["draws", "high"] (sp_law_bad K) := by
  refine T.F_law_bad.ok sc_law_bad (fun vs H Q E h => ?_) (fun cdv A outer s H vs Q E hr h => ?_)
  · obtain ⟨d, n, h, rfl, _⟩ := h
    rfl
  · obtain ⟨d, n, h, rfl, hD, q⟩ := h
    refine ⟨_, (pss_one (ps_ret (pe_ix (r := rIxL K) ix_list (pe_lst (pa_cons (pv 1) (pa_cons (pe_un un_neg pe_int) (pa_cons pe_bl (pa_cons pe_non (pa_cons pe_str (pa_cons (pe_op op_shl pe_int pe_int) pa_nil))))))) (pe_op op_mod (pe_call (ok_law_draw T) hr (by rfl) T.g_law_draw T.F_law_draw.kp T.b_law_draw .nil pass0 (pa_cons (pv 0) pa_nil)) pe_int) (fun _ _ => rfl)))), ?_⟩
    walk_at "start"
    walk_at "x"
    refine ⟨by show 6 ≤ sizeLine; decide, fun u hu => ?_⟩
    have s1 := same_upd (o := .lst [V.int (h : Int), .int (-1), .bl true, .non, .str "0", .int (1 * 2 ^ Int.toNat 40)]) hu
    have e1 : (upd H u (.lst [V.int (h : Int), .int (-1), .bl true, .non, .str "0", .int (1 * 2 ^ Int.toNat 40)])) u = _ := upd_same
    have hud := hD.new hu
    have hD1 := hD.same s1
    show _
    generalize upd H u (.lst [V.int (h : Int), .int (-1), .bl true, .non, .str "0", .int (1 * 2 ^ Int.toNat 40)]) = H1 at s1 e1 hD1
    walk_at "x"
    refine ⟨d, n, rfl, hD1, ?_⟩
    rintro _ H2 ⟨y, rfl, y0, y1⟩ hD2 k2
    walk_at "x"
    obtain ⟨b, hv, hm⟩ := at_lt (xs := [V.int (h : Int), .int (-1), .bl true, .non, .str "0", .int (1 * 2 ^ Int.toNat 40)]) (i := y % 6) (Int.emod_nonneg _ (by decide)) (Int.emod_lt_of_pos y (show (0 : Int) < 6 by decide))
    refine x_ixL (sq_of (k2 _ _ e1 hud)) hv ?_
    exact q _ _ hm hD2 ((Same.keep s1).trans k2)


def sp_law_with (K : PySem.W.Frag) : Sp := fun vs H Q _ => ∃ (d n l : Addr) (xs : List V) (y : V), vs = [.ref d, .ref l, y] ∧ H l = some (.lst xs) ∧ l ≠ d ∧ 1 ≤ xs.length ∧ xs.length ≤ 200 ∧ Dr H d n ∧
  RetG d n (fun v H' => ∃ (r : Addr) (a : Nat), v = .ref r ∧ H r = none ∧ a < xs.length ∧ H' r = some (.lst (xs.take a ++ [y] ++ xs.drop (a + 1)))) H Q
theorem ok_law_with (T : Txt K mg) : FnOk P w K mg base CX0 3 T.a_law_with T.fd_law_with ["draws", "row", "bad"] (sp_law_with K) := by
  refine T.F_law_with.ok sc_law_with (fun vs H Q E h => ?_) (fun cdv A outer s H vs Q E hr h => ?_)
  · obtain ⟨d, n, l, xs, y, rfl, _⟩ := h
    rfl
  · obtain ⟨d, n, l, xs, y, rfl, hl, hld, n1, n2, hD, q⟩ := h
    refine ⟨_, (pss_cons (ps_set (i := 3) sc_law_with.nd rfl (.inl rfl) (pe_op op_mod (pe_call (ok_law_draw T) hr (by rfl) T.g_law_draw T.F_law_draw.kp T.b_law_draw .nil pass0 (pa_cons (pv 0) pa_nil)) (pe_callB (id := "len") (r := rLen K) cr_len (by rfl) T.m_len PySem.boot_len (pa_cons (pv 1) pa_nil))))
      (pss_one (ps_ret (pe_op op_cat (pe_op op_cat (pe_slice (r := rSlL K) sl_list (pv 1) po_none (po_some (pv 3))) (pe_lst (pa_cons (pv 2) pa_nil))) (pe_slice (r := rSlL K) sl_list (pv 1) (po_some (pe_op op_add (pv 3) pe_int)) po_none))))), ?_⟩
    walk_at "start"
    walk_at "x"
    refine ⟨d, n, rfl, hD, ?_⟩
    rintro _ H1 ⟨w, rfl, w0, w1⟩ hD1 k1
    have hl1 := k1 _ _ hl hld
    walk_at "x"
    refine x_len (sq_of hl1) ?_
    walk_at "x"
    obtain ⟨a, ha, hax⟩ : ∃ a : Nat, w % (xs.length : Int) = (a : Int) ∧ a < xs.length := ⟨(w % (xs.length : Int)).toNat, by have := Int.emod_nonneg w (show (xs.length : Int) ≠ 0 by omega); omega, by have := Int.emod_lt_of_pos w (show (0 : Int) < (xs.length : Int) by omega); have := Int.emod_nonneg w (show (xs.length : Int) ≠ 0 by omega); omega⟩
    rw [ha]
    walk_at "x"
    refine x_sl2 ?_
    walk_at "x"
    refine x_part0 ?_
    refine x_part1 ?_
    walk_at "x"
    refine ⟨_, rfl, ?_⟩
    refine x_cutL (sq_of hl1) fun r1 hr1 => ?_
    rw [cutV_to (by omega)]
    have s5 := same_upd (o := .lst (xs.take a)) hr1
    have e5 : (upd H1 r1 (.lst (xs.take a))) r1 = _ := upd_same
    generalize upd H1 r1 (.lst (xs.take a)) = H5 at s5 e5
    walk_at "x"
    refine ⟨by show 1 ≤ sizeLine; decide, fun r2 hr2 => ?_⟩
    have s6 := same_upd (o := .lst [y]) hr2
    have c1 : (xs.take a).length = a := by rw [List.length_take]; omega
    have c2 : (xs.drop (a + 1)).length = xs.length - (a + 1) := List.length_drop
    refine x_cat (s6 _ _ e5) upd_same (by show (xs.take a).length + 1 ≤ 1000000; omega) fun r3 hr3 => ?_
    have s7 := (s5.trans s6).trans (same_upd (o := .lst (xs.take a ++ [y])) hr3)
    have e7 : (upd (upd H5 r2 (.lst [y])) r3 (.lst (xs.take a ++ [y]))) r3 = _ := upd_same
    generalize upd (upd H5 r2 (.lst [y])) r3 (.lst (xs.take a ++ [y])) = H7 at s7 e7
    refine x_sl2 ?_
    walk_at "x"
    refine x_part1 ?_
    walk_at "x"
    refine ⟨_, rfl, x_part0 ?_⟩
    refine x_cutL (sq_of (s7 _ _ hl1)) fun r4 hr4 => ?_
    rw [show (a : Int) + 1 = ((a + 1 : Nat) : Int) by omega, cutV_from (by omega)] at *
    have s8 := same_upd (o := .lst (xs.drop (a + 1))) hr4
    refine x_cat (s8 _ _ e7) upd_same (by rw [List.length_append]; show (xs.take a).length + 1 + (xs.drop (a + 1)).length ≤ 1000000; omega) fun r5 hr5 => ?_
    have s78 := s7.trans s8
    have sZ := s78.trans (same_upd (o := .lst (xs.take a ++ [y] ++ xs.drop (a + 1))) hr5)
    refine q _ _ ⟨r5, a, rfl, ?_, hax, upd_same⟩ (hD1.same sZ) (k1.trans (Same.keep sZ))
    have h1 := s78.free hr5
    cases e : H r5 with
    | none => rfl
    | some o =>
      by_cases hd5 : r5 = d
      · rw [hd5] at h1; exact absurd h1 hD1.ne
      · rw [k1 _ _ e hd5] at h1; cases h1

/-- a list whose values are no addresses, or a tuple -/
def Ol (H : Hp) (a : Addr) (o : Option (List V)) : Prop := (∃ xs, o = some xs ∧ H a = some (.lst xs) ∧ xs.length ≤ 200 ∧ ∀ x, x ∈ xs → FlV x) ∨ (o = none ∧ ∃ xs, H a = some (.tup xs))
theorem Ol.nums {H : Hp} {d a : Addr} {o : Option (List V)} (h : Ol H a o) (had : a ≠ d) : NumsAt d H (.ref a) o := by
  rcases h with ⟨xs, rfl, e, hl, hf⟩ | ⟨rfl, xs, e⟩
  · exact .lst a xs e had hl fun x hx => ⟨(hf x hx).1 H, (hf x hx).2 d⟩
  · exact .tup a xs e
theorem Ol.mv {H H' : Hp} {a : Addr} {o : Option (List V)} (h : Ol H a o) (e : ∀ u, H a = some u → H' a = some u) : Ol H' a o := by
  rcases h with ⟨xs, rfl, g, hl, hf⟩ | ⟨rfl, xs, g⟩
  · exact .inl ⟨xs, rfl, e _ g, hl, hf⟩
  · exact .inr ⟨rfl, xs, e _ g⟩
theorem Ol.some {H : Hp} {a : Addr} {o : Option (List V)} (h : Ol H a o) : ∃ u, H a = Option.some u := by
  rcases h with ⟨xs, rfl, g, hl, hf⟩ | ⟨rfl, xs, g⟩
  · exact ⟨_, g⟩
  · exact ⟨_, g⟩
theorem Ol.flat {H : Hp} {a : Addr} {xs : List V} (h : H a = Option.some (.lst xs)) (hl : xs.length ≤ 200) (hf : ∀ x, x ∈ xs → FlV x) : Ol H a (Option.some xs) := .inl ⟨xs, rfl, h, hl, hf⟩
theorem flI {ns : List Int} {x : V} (h : x ∈ ns.map V.int) : FlV x := by obtain ⟨z, _, rfl⟩ := List.mem_map.mp h; exact FlV.int z
theorem flC {ns : List Nat} {x : V} (h : x ∈ cInts ns) : FlV x := by rw [cInts_map] at h; exact flI h
theorem belF_len {xs : List V} {c : Nat} {m : Int} (h : xs.length ≠ c) : belF (some xs) (c : Int) m = false := by
  show (decide ((xs.length : Int) = (c : Int)) && _) = false
  rw [decide_eq_false (by omega), Bool.false_and]
theorem belF_bad {xs : List V} {c m : Int} {x : V} (hx : x ∈ xs) (h : isB x m = false) : belF (some xs) c m = false := by
  show (_ && xs.all fun x => isB x m) = false
  rw [Bool.and_eq_false_iff]
  refine .inr ?_
  rw [List.all_eq_false]
  exact ⟨x, hx, by rw [h]; decide⟩
theorem pls_no {o : Option (List V)} {c n : Nat} {p : Prop} (h : belF o (c : Int) (n : Int) = false) : ¬ (PlsOk o c n ∧ p) := fun ⟨⟨ns, e, hm, _⟩, _⟩ => by
  have e3 : belF (some (ns.map V.int)) (c : Int) (n : Int) = true := hm.odd
  rw [e, e3] at h; cases h
theorem pls_dup {xs : List Nat} {c n : Nat} {p : Prop} (h : ¬ xs.Nodup) : ¬ (PlsOk (some (cInts xs)) c n ∧ p) := fun ⟨⟨ns, e, _, hn⟩, _⟩ => by
  rw [cInts_map] at e
  have e := (List.map_inj_right (fun a b (h : V.int a = V.int b) => V.int.inj h)).mp (Option.some.inj e)
  rw [← e] at hn
  refine h ?_
  unfold List.Nodup at hn ⊢
  rw [List.pairwise_map] at hn
  exact hn.imp fun h e => h (by rw [e])
theorem kfree {d n r : Addr} {H H' : Hp} (k : Keep d H H') (hD : Dr H' d n) (h : H' r = none) : H r = none := by
  cases e : H r with
  | none => rfl
  | some o =>
    by_cases hd5 : r = d
    · rw [hd5] at h; exact absurd h hD.ne
    · rw [k _ _ e hd5] at h; cases h
theorem bel_no {o : Option (List V)} {i m : Int} {p : Prop} (h : belF o i m = false) : ¬ (p ∧ belF o i m = true) := fun z => by
  rw [h] at z; cases z.2
theorem atI_end {α : Type} {xs : List α} {v : α} (hj : 0 < xs.length) (h : xs[xs.length - 1]? = some v) : atI xs (-1) = some v := by
  have hne : xs ≠ [] := fun z => by rw [z] at hj; cases hj
  have e := List.dropLast_concat_getLast hne
  have hl : xs.getLast hne = v := by
    rw [List.getLast_eq_getElem]
    rw [List.getElem?_eq_getElem (by omega)] at h
    exact Option.some.inj h
  rw [hl] at e
  rw [← e]
  exact atI_last _ _

def sp_law_spoilt (K : PySem.W.Frag) : Sp := fun vs H Q _ => ∃ (d n l S P G : Addr) (m size c i : Nat) (pl : List Nat) (gv : List Int), vs = [.ref d, .ref l, .int (m : Int), .int (size : Int)] ∧ H l = some (.lst [.int (c : Int), .int (i : Int), .ref S, .ref P, .ref G]) ∧ H P = some (.lst (cInts pl)) ∧ H G = some (.lst (gv.map V.int)) ∧ l ≠ d ∧ P ≠ d ∧ G ≠ d ∧
  pl.length = c ∧ 1 ≤ c ∧ c ≤ 60 ∧ i ≤ 60 ∧ gv.length = i ∧ m ≤ 1000000000 ∧ 1 ≤ size ∧ size ≤ 200 ∧ Dr H d n ∧
  RetG d n (fun v H' => ∃ (r a1 a2 : Addr) (o1 o2 : Option (List V)), v = .ref r ∧ H r = none ∧ H a1 = none ∧ H a2 = none ∧ H' r = some (.lst [.ref a1, .ref a2]) ∧ Ol H' a1 o1 ∧ Ol H' a2 o2 ∧ ¬ (PlsOk o1 c size ∧ belF o2 (i : Int) (m : Int) = true)) H Q
theorem ok_law_spoilt (T : Txt K mg) : FnOk P w K mg base CX0 4 T.a_law_spoilt T.fd_law_spoilt ["draws", "loan", "modulus", "size"] (sp_law_spoilt K) := by
  refine T.F_law_spoilt.ok sc_law_spoilt (fun vs H Q E h => ?_) (fun cdv A outer s H vs Q E hr h => ?_)
  · obtain ⟨d, n, l, S, P, G, m, size, c, i, pl, gv, rfl, _⟩ := h
    rfl
  · obtain ⟨d, n, l, S, P, G, m, size, c, i, pl, gv, rfl, hl, hP, hG, hld, hPd, hGd, hpl, c1, c60, i60, hgv, m9, n1, n2, hD, q⟩ := h
    have fin : ∀ (H9 : Hp) (a1 a2 : Addr) (o1 o2 : Option (List V)), Dr H9 d n → Keep d H H9 → H a1 = none → H a2 = none → Ol H9 a1 o1 → Ol H9 a2 o2 → ¬ (PlsOk o1 c size ∧ belF o2 (i : Int) (m : Int) = true) → ∀ r, H9 r = none → Q (.ref r) (upd H9 r (.lst [.ref a1, .ref a2])) := fun H9 a1 a2 o1 o2 hD9 k9 f1 f2 g1 g2 hno r hr => by
      have s9 := same_upd (o := .lst [V.ref a1, .ref a2]) hr
      exact q _ _ ⟨r, a1, a2, o1, o2, rfl, kfree k9 hD9 hr, f1, f2, upd_same, g1.mv fun u e => s9 _ _ e, g2.mv fun u e => s9 _ _ e, hno⟩ (hD9.same s9) (k9.trans (Same.keep s9))
    have hcl : (cInts pl).length = c := by unfold cInts; rw [List.length_map, hpl]
    have hgl : (gv.map V.int).length = i := by rw [List.length_map, hgv]
    refine ⟨_, (pss_cons (ps_set (i := 4) sc_law_spoilt.nd rfl (.inl rfl) (pe_callTy (T := "list") (r := rListOf K) cr_list_of (by rfl) T.m_list (by decide +kernel) (pa_cons (pe_ix (r := rIxL K) ix_list (pv 1) pe_int (fun _ _ => rfl)) pa_nil)))
      (pss_cons (ps_set (i := 5) sc_law_spoilt.nd rfl (.inl rfl) (pe_callTy (T := "list") (r := rListOf K) cr_list_of (by rfl) T.m_list (by decide +kernel) (pa_cons (pe_ix (r := rIxL K) ix_list (pv 1) pe_int (fun _ _ => rfl)) pa_nil)))
      (pss_cons (ps_set (i := 6) sc_law_spoilt.nd rfl (.inl rfl) (pe_op op_mod (pe_call (ok_law_draw T) (hr.mono (by decide)) (by rfl) T.g_law_draw T.F_law_draw.kp T.b_law_draw .nil pass0 (pa_cons (pv 0) pa_nil)) pe_int))
      (pss_cons (ps_if (pt_cmpR op_eq (pv 6) pe_int (nomark _))
      (pss_one (ps_ret (pe_lst (pa_cons (pe_callTy (T := "tuple") (r := rTupOf K) cr_tup_of (by rfl) T.m_tuple (by decide +kernel) (pa_cons (pv 4) pa_nil)) (pa_cons (pv 5) pa_nil)))))
      pss_nil)
      (pss_cons (ps_if (pt_cmpR op_eq (pv 6) pe_int (nomark _))
      (pss_one (ps_ret (pe_lst (pa_cons (pe_op op_cat (pv 4) (pe_lst (pa_cons (pe_op op_mod (pe_op op_add (pe_ix (r := rIxL K) ix_list (pv 4) pe_int (fun _ _ => rfl)) pe_int) (pv 3)) pa_nil))) (pa_cons (pv 5) pa_nil)))))
      pss_nil)
      (pss_cons (ps_if (pt_cmpR op_eq (pv 6) pe_int (nomark _))
      (pss_one (ps_ret (pe_lst (pa_cons (pe_slice (r := rSlL K) sl_list (pv 4) (po_some pe_int) po_none) (pa_cons (pv 5) pa_nil)))))
      pss_nil)
      (pss_cons (ps_if (pt_cmpR op_eq (pv 6) pe_int (nomark _))
      (pss_one (ps_ret (pe_lst (pa_cons (pe_call (ok_law_with T) hr (by rfl) T.g_law_with T.F_law_with.kp T.b_law_with .nil pass0 (pa_cons (pv 0) (pa_cons (pv 4) (pa_cons (pe_call (ok_law_bad T) hr (by rfl) T.g_law_bad T.F_law_bad.kp T.b_law_bad .nil pass0 (pa_cons (pv 0) (pa_cons (pv 3) pa_nil))) pa_nil)))) (pa_cons (pv 5) pa_nil)))))
      pss_nil)
      (pss_cons (ps_if (PW.pt (pw_and (pt_cmpR op_eq (pv 6) pe_int (nomark _)) (pw_and1 (pt_cmpR op_gt (pe_callB (id := "len") (r := rLen K) cr_len (by rfl) T.m_len PySem.boot_len (pa_cons (pv 4) pa_nil)) pe_int (nomark _)))))
      (pss_cons (ps_set (i := 7) sc_law_spoilt.nd rfl (.inl rfl) (pe_op op_mod (pe_call (ok_law_draw T) (hr.mono (by decide)) (by rfl) T.g_law_draw T.F_law_draw.kp T.b_law_draw .nil pass0 (pa_cons (pv 0) pa_nil)) (pe_callB (id := "len") (r := rLen K) cr_len (by rfl) T.m_len PySem.boot_len (pa_cons (pv 4) pa_nil))))
      (pss_one (ps_ret (pe_lst (pa_cons (pe_op op_cat (pe_op op_cat (pe_slice (r := rSlL K) sl_list (pv 4) po_none (po_some (pv 7))) (pe_lst (pa_cons (pe_ix (r := rIxL K) ix_list (pv 4) (pe_op op_sub (pv 7) pe_int) (fun _ _ => rfl)) pa_nil))) (pe_slice (r := rSlL K) sl_list (pv 4) (po_some (pe_op op_add (pv 7) pe_int)) po_none)) (pa_cons (pv 5) pa_nil))))))
      pss_nil)
      (pss_cons (ps_if (pt_cmpR op_eq (pv 6) pe_int (nomark _))
      (pss_one (ps_ret (pe_lst (pa_cons (pv 4) (pa_cons (pe_op op_cat (pv 5) (pe_lst (pa_cons pe_int pa_nil))) pa_nil)))))
      pss_nil)
      (pss_cons (ps_if (PW.pt (pw_and (pt_cmpR op_eq (pv 6) pe_int (nomark _)) (pw_and1 (pt_cmpR op_gt (pe_callB (id := "len") (r := rLen K) cr_len (by rfl) T.m_len PySem.boot_len (pa_cons (pv 5) pa_nil)) pe_int (nomark _)))))
      (pss_one (ps_ret (pe_lst (pa_cons (pv 4) (pa_cons (pe_slice (r := rSlL K) sl_list (pv 5) (po_some pe_int) po_none) pa_nil)))))
      pss_nil)
      (pss_cons (ps_if (PW.pt (pw_and (pt_cmpR op_eq (pv 6) pe_int (nomark _)) (pw_and1 (pt_cmpR op_gt (pe_callB (id := "len") (r := rLen K) cr_len (by rfl) T.m_len PySem.boot_len (pa_cons (pv 5) pa_nil)) pe_int (nomark _)))))
      (pss_one (ps_ret (pe_lst (pa_cons (pv 4) (pa_cons (pe_call (ok_law_with T) hr (by rfl) T.g_law_with T.F_law_with.kp T.b_law_with .nil pass0 (pa_cons (pv 0) (pa_cons (pv 5) (pa_cons (pe_call (ok_law_bad T) hr (by rfl) T.g_law_bad T.F_law_bad.kp T.b_law_bad .nil pass0 (pa_cons (pv 0) (pa_cons (pv 2) pa_nil))) pa_nil)))) pa_nil)))))
      pss_nil)
      (pss_one (ps_ret (pe_lst (pa_cons (pv 4) (pa_cons (pe_callTy (T := "tuple") (r := rTupOf K) cr_tup_of (by rfl) T.m_tuple (by decide +kernel) (pa_cons (pv 5) pa_nil)) pa_nil)))))))))))))))), ?_⟩
    walk_at "start"
    walk_at "x"
    refine x_ixL (sq_of hl) (show _ = some (V.ref P) from rfl) ?_
    walk_at "x"
    refine x_listL (sq_of hP) fun p hp => ?_
    have s1 := same_upd (o := .lst (cInts pl)) hp
    have ep : (upd H p (.lst (cInts pl))) p = some (.lst (cInts pl)) := upd_same
    generalize upd H p (.lst (cInts pl)) = H1 at s1 ep
    walk_at "x"
    refine x_ixL (sq_of (s1 _ _ hl)) (show _ = some (V.ref G) from rfl) ?_
    walk_at "x"
    refine x_listL (sq_of (s1 _ _ hG)) fun g hg => ?_
    have s2 := same_upd (o := .lst (gv.map V.int)) hg
    have eg : (upd H1 g (.lst (gv.map V.int))) g = some (.lst (gv.map V.int)) := upd_same
    generalize upd H1 g (.lst (gv.map V.int)) = H2 at s2 eg
    have ep := s2 _ _ ep
    have hg := s1.free hg
    have s12 := s1.trans s2
    have hD2 := hD.same s12
    have hpd : p ≠ d := fun z => hD.ne (by rw [← z]; exact hp)
    have hgd : g ≠ d := fun z => hD.ne (by rw [← z]; exact hg)
    walk_at "x"
    refine ⟨d, n, rfl, hD2, ?_⟩
    rintro _ H3 ⟨w, rfl, w0, w1⟩ hD3 k3
    have ep := k3 _ _ ep hpd
    have eg := k3 _ _ eg hgd
    have k3 := (Same.keep s12).trans k3
    have olp : ∀ {H' : Hp}, Keep d H3 H' → Ol H' p (some (cInts pl)) := fun k => Ol.flat (k _ _ ep hpd) (by omega) fun x hx => flC hx
    have olg : ∀ {H' : Hp}, Keep d H3 H' → Ol H' g (some (gv.map V.int)) := fun k => Ol.flat (k _ _ eg hgd) (by omega) fun x hx => flI hx
    walk_at "x"
    refine x_ite (fun c0 => ?_) (fun c0 => ?_)
    · walk_at "x"
      refine x_tupL (sq_of ep) fun t ht => ?_
      have s4 := same_upd (o := .tup (cInts pl)) ht
      have e4 : (upd H3 t (.tup (cInts pl))) t = _ := upd_same
      generalize upd H3 t (.tup (cInts pl)) = H4 at s4 e4
      walk_at "x"
      refine ⟨by show 2 ≤ sizeLine; decide, fun r hr => ?_⟩
      exact fin H4 t g none _ (hD3.same s4) (k3.trans (Same.keep s4)) (kfree k3 hD3 ht) hg (.inr ⟨rfl, _, e4⟩) (olg (Same.keep s4)) (pls_no rfl) r hr
    walk_at "x"
    refine x_ite (fun c1 => ?_) (fun c1 => ?_)
    · walk_at "x"
      obtain ⟨p0, hp0⟩ : ∃ p0, pl[0]? = some p0 := ⟨_, List.getElem?_eq_getElem (by omega)⟩
      refine x_ixL (v := .int (p0 : Int)) (sq_of ep) (atI_nat (j := 0) (by unfold cInts; rw [List.getElem?_map, hp0]; rfl)) ?_
      walk_at "x"
      refine ⟨by show 1 ≤ sizeLine; decide, fun u hu => ?_⟩
      have s4 := same_upd (o := .lst [V.int (((p0 : Int) + 1) % (size : Int))]) hu
      refine x_cat (s4 _ _ ep) upd_same (by rw [hcl]; show c + 1 ≤ 1000000; omega) fun t ht => ?_
      have s5 := s4.trans (same_upd (o := .lst (cInts pl ++ [V.int (((p0 : Int) + 1) % (size : Int))])) ht)
      have e5 : (upd (upd H3 u (.lst [V.int (((p0 : Int) + 1) % (size : Int))])) t (.lst (cInts pl ++ [V.int (((p0 : Int) + 1) % (size : Int))]))) t = _ := upd_same
      have ht3 := s4.free ht
      generalize upd (upd H3 u (.lst [V.int (((p0 : Int) + 1) % (size : Int))])) t (.lst (cInts pl ++ [V.int (((p0 : Int) + 1) % (size : Int))])) = H5 at s5 e5
      walk_at "x"
      refine ⟨by show 2 ≤ sizeLine; decide, fun r hr => ?_⟩
      have hlen : (cInts pl ++ [V.int (((p0 : Int) + 1) % (size : Int))]).length = c + 1 := by rw [List.length_append, hcl]; rfl
      have ol : Ol H5 t (some (cInts pl ++ [V.int (((p0 : Int) + 1) % (size : Int))])) := Ol.flat e5 (by omega) fun x hx => by
        rcases List.mem_append.mp hx with hx | hx
        · exact flC hx
        · rw [List.mem_singleton.mp hx]; exact FlV.int _
      exact fin H5 t g _ _ (hD3.same s5) (k3.trans (Same.keep s5)) (kfree k3 hD3 ht3) hg ol (olg (Same.keep s5)) (pls_no (belF_len (by omega))) r hr
    walk_at "x"
    refine x_ite (fun c2 => ?_) (fun c2 => ?_)
    · walk_at "x"
      refine x_sl2 ?_
      walk_at "x"
      refine x_part1 ?_
      walk_at "x"
      refine ⟨_, rfl, x_part0 ?_⟩
      refine x_cutL (sq_of ep) fun t ht => ?_
      rw [show cutV (cInts pl) (some 1) none = (cInts pl).drop 1 from cutV_from (k := 1) (by omega)]
      have s5 := same_upd (o := .lst ((cInts pl).drop 1)) ht
      have e5 : (upd H3 t (.lst ((cInts pl).drop 1))) t = _ := upd_same
      have hlen : ((cInts pl).drop 1).length = c - 1 := by rw [List.length_drop, hcl]
      generalize upd H3 t (.lst ((cInts pl).drop 1)) = H5 at s5 e5
      walk_at "x"
      refine ⟨by show 2 ≤ sizeLine; decide, fun r hr => ?_⟩
      have ol : Ol H5 t (some ((cInts pl).drop 1)) := Ol.flat e5 (by omega) fun x hx => flC (List.mem_of_mem_drop hx)
      exact fin H5 t g _ _ (hD3.same s5) (k3.trans (Same.keep s5)) (kfree k3 hD3 ht) hg ol (olg (Same.keep s5)) (pls_no (belF_len (by omega))) r hr
    walk_at "x"
    refine x_ite (fun c3 => ?_) (fun c3 => ?_)
    · walk_at "x"
      refine ⟨d, n, size, rfl, hD3, ?_⟩
      rintro b H4 hb hD4 k4
      walk_at "x"
      refine ⟨d, n, p, cInts pl, b, rfl, k4 _ _ ep hpd, hpd, by omega, by omega, hD4, ?_⟩
      rintro _ H5 ⟨t, a, rfl, ht, ha, e5⟩ hD5 k5
      obtain ⟨fb, nb⟩ := hb.flat (by omega)
      have k35 := k4.trans k5
      walk_at "x"
      refine ⟨by show 2 ≤ sizeLine; decide, fun r hr => ?_⟩
      have hmem : b ∈ (cInts pl).take a ++ [b] ++ (cInts pl).drop (a + 1) := List.mem_append_left _ (List.mem_append_right _ (List.mem_singleton.mpr rfl))
      have ol : Ol H5 t (some ((cInts pl).take a ++ [b] ++ (cInts pl).drop (a + 1))) := Ol.flat e5 (by rw [List.length_append, List.length_append, List.length_take, List.length_drop]; show _ + 1 + _ ≤ 200; omega) fun x hx => by
        rcases List.mem_append.mp hx with hx | hx
        · rcases List.mem_append.mp hx with hx | hx
          · exact flC (List.mem_of_mem_take hx)
          · rw [List.mem_singleton.mp hx]; exact fb
        · exact flC (List.mem_of_mem_drop hx)
      exact fin H5 t g _ _ hD5 (k3.trans k35) (kfree k3 hD3 (kfree k4 hD4 ht)) hg ol (olg k35) (pls_no (belF_bad hmem nb)) r hr
    walk_at "x"
    refine x_ite (fun c4 => ?_) (fun c4 => ?_)
    · walk_at "x"
      refine x_len (sq_of ep) ?_
      walk_at "x"
      rw [hcl]
      refine x_ite (fun cl => ?_) (fun cl => ?_)
      · walk_at "x"
        refine ⟨d, n, rfl, hD3, ?_⟩
        rintro _ H4 ⟨w4, rfl, w40, w41⟩ hD4 k4
        have ep4 := k4 _ _ ep hpd
        walk_at "x"
        refine x_len (sq_of ep4) ?_
        walk_at "x"
        rw [hcl]
        obtain ⟨a, ha, hax⟩ : ∃ a : Nat, w4 % (c : Int) = (a : Int) ∧ a < c := ⟨(w4 % (c : Int)).toNat, by have := Int.emod_nonneg w4 (show (c : Int) ≠ 0 by omega); omega, by have := Int.emod_lt_of_pos w4 (show (0 : Int) < (c : Int) by omega); have := Int.emod_nonneg w4 (show (c : Int) ≠ 0 by omega); omega⟩
        rw [ha]
        obtain ⟨z, hz, hzm⟩ : ∃ z : Nat, atI (cInts pl) ((a : Int) - 1) = some (.int (z : Int)) ∧ (z ∈ pl.take a ∨ z ∈ pl.drop (a + 1)) := by
          by_cases h0 : a = 0
          · subst h0
            refine ⟨pl[c - 1], ?_, .inr ?_⟩
            · rw [show ((0 : Nat) : Int) - 1 = -1 by omega]
              refine atI_end (by omega) ?_
              rw [hcl]
              unfold cInts
              rw [List.getElem?_map, List.getElem?_eq_getElem (by omega)]; rfl
            · refine List.mem_iff_getElem?.mpr ⟨c - 2, ?_⟩
              rw [List.getElem?_drop, show 0 + 1 + (c - 2) = c - 1 by omega, List.getElem?_eq_getElem (by omega)]
          · refine ⟨pl[a - 1], ?_, .inl ?_⟩
            · rw [show (a : Int) - 1 = ((a - 1 : Nat) : Int) by omega]
              refine atI_nat ?_
              unfold cInts
              rw [List.getElem?_map, List.getElem?_eq_getElem (by omega)]; rfl
            · refine List.mem_iff_getElem?.mpr ⟨a - 1, ?_⟩
              rw [List.getElem?_take, if_pos (by omega), List.getElem?_eq_getElem (by omega)]
        have hnd : ¬ (pl.take a ++ [z] ++ pl.drop (a + 1)).Nodup := fun h => by
          rcases hzm with h1 | h1
          · exact (List.nodup_append.mp (List.nodup_append.mp h).1).2.2 z h1 z (List.mem_singleton.mpr rfl) rfl
          · exact (List.nodup_append.mp h).2.2 z (List.mem_append_right _ (List.mem_singleton.mpr rfl)) z h1 rfl
        have eC : (cInts pl).take a ++ [V.int (z : Int)] ++ (cInts pl).drop (a + 1) = cInts (pl.take a ++ [z] ++ pl.drop (a + 1)) := by
          unfold cInts
          rw [List.map_append, List.map_append, List.map_take, List.map_drop]; rfl
        walk_at "x"
        refine x_sl2 ?_
        walk_at "x"
        refine x_part0 ?_
        refine x_part1 ?_
        walk_at "x"
        refine ⟨_, rfl, ?_⟩
        refine x_cutL (sq_of ep4) fun r1 hr1 => ?_
        rw [cutV_to (by omega)]
        have s5 := same_upd (o := .lst ((cInts pl).take a)) hr1
        have e5 : (upd H4 r1 (.lst ((cInts pl).take a))) r1 = _ := upd_same
        generalize upd H4 r1 (.lst ((cInts pl).take a)) = H5 at s5 e5
        walk_at "x"
        refine x_ixL (sq_of (s5 _ _ ep4)) hz ?_
        walk_at "x"
        refine ⟨by show 1 ≤ sizeLine; decide, fun r2 hr2 => ?_⟩
        have s6 := same_upd (o := .lst [V.int (z : Int)]) hr2
        have c1 : ((cInts pl).take a).length = a := by rw [List.length_take]; omega
        have c2 : ((cInts pl).drop (a + 1)).length = c - (a + 1) := by rw [List.length_drop, hcl]
        refine x_cat (s6 _ _ e5) upd_same (by show ((cInts pl).take a).length + 1 ≤ 1000000; omega) fun r3 hr3 => ?_
        have s7 := (s5.trans s6).trans (same_upd (o := .lst ((cInts pl).take a ++ [V.int (z : Int)])) hr3)
        have e7 : (upd (upd H5 r2 (.lst [V.int (z : Int)])) r3 (.lst ((cInts pl).take a ++ [V.int (z : Int)]))) r3 = _ := upd_same
        generalize upd (upd H5 r2 (.lst [V.int (z : Int)])) r3 (.lst ((cInts pl).take a ++ [V.int (z : Int)])) = H7 at s7 e7
        refine x_sl2 ?_
        walk_at "x"
        refine x_part1 ?_
        walk_at "x"
        refine ⟨_, rfl, x_part0 ?_⟩
        refine x_cutL (sq_of (s7 _ _ ep4)) fun r4 hr4 => ?_
        rw [show (a : Int) + 1 = ((a + 1 : Nat) : Int) by omega, cutV_from (by omega)] at *
        have s8 := same_upd (o := .lst ((cInts pl).drop (a + 1))) hr4
        refine x_cat (s8 _ _ e7) upd_same (by rw [List.length_append]; show ((cInts pl).take a).length + 1 + ((cInts pl).drop (a + 1)).length ≤ 1000000; omega) fun t ht => ?_
        have s78 := s7.trans s8
        have sZ := s78.trans (same_upd (o := .lst ((cInts pl).take a ++ [V.int (z : Int)] ++ (cInts pl).drop (a + 1))) ht)
        have eZ : (upd (upd H7 r4 (.lst ((cInts pl).drop (a + 1)))) t (.lst ((cInts pl).take a ++ [V.int (z : Int)] ++ (cInts pl).drop (a + 1)))) t = _ := upd_same
        have ht4 := s78.free ht
        generalize upd (upd H7 r4 (.lst ((cInts pl).drop (a + 1)))) t (.lst ((cInts pl).take a ++ [V.int (z : Int)] ++ (cInts pl).drop (a + 1))) = HZ at sZ eZ
        walk_at "x"
        refine ⟨by show 2 ≤ sizeLine; decide, fun r hr => ?_⟩
        have k3Z := k4.trans (Same.keep sZ)
        rw [eC] at eZ
        have hlZ : (cInts (pl.take a ++ [z] ++ pl.drop (a + 1))).length ≤ 200 := by rw [← eC, List.length_append, List.length_append]; show _ + 1 + _ ≤ 200; omega
        exact fin HZ t g _ _ (hD4.same sZ) (k3.trans k3Z) (kfree (k3.trans k4) hD4 ht4) hg (Ol.flat eZ hlZ fun x hx => flC hx) (olg k3Z) (pls_dup hnd) r hr
      walk_at "x"
      refine x_ite (fun h => absurd h (by omega)) (fun _ => ?_)
      walk_at "x"
      refine x_ite (fun h => absurd h (by omega)) (fun _ => ?_)
      walk_at "f"
      walk_at "x"
      refine x_ite (fun h => absurd h (by omega)) (fun _ => ?_)
      walk_at "f"
      walk_at "x"
      refine x_tupL (sq_of eg) fun t ht => ?_
      have s4 := same_upd (o := .tup (gv.map V.int)) ht
      have e4 : (upd H3 t (.tup (gv.map V.int))) t = _ := upd_same
      generalize upd H3 t (.tup (gv.map V.int)) = H4 at s4 e4
      walk_at "x"
      refine ⟨by show 2 ≤ sizeLine; decide, fun r hr => ?_⟩
      exact fin H4 p t _ none (hD3.same s4) (k3.trans (Same.keep s4)) hp (kfree k3 hD3 ht) (olp (Same.keep s4)) (.inr ⟨rfl, _, e4⟩) (bel_no rfl) r hr
    walk_at "f"
    walk_at "x"
    refine x_ite (fun c5 => ?_) (fun c5 => ?_)
    · walk_at "x"
      refine ⟨by show 1 ≤ sizeLine; decide, fun u hu => ?_⟩
      have s4 := same_upd (o := .lst [V.int 0]) hu
      refine x_cat (s4 _ _ eg) upd_same (by rw [hgl]; show i + 1 ≤ 1000000; omega) fun t ht => ?_
      have s5 := s4.trans (same_upd (o := .lst (gv.map V.int ++ [V.int 0])) ht)
      have e5 : (upd (upd H3 u (.lst [V.int 0])) t (.lst (gv.map V.int ++ [V.int 0]))) t = _ := upd_same
      have ht3 := s4.free ht
      generalize upd (upd H3 u (.lst [V.int 0])) t (.lst (gv.map V.int ++ [V.int 0])) = H5 at s5 e5
      walk_at "x"
      refine ⟨by show 2 ≤ sizeLine; decide, fun r hr => ?_⟩
      have hlen : (gv.map V.int ++ [V.int 0]).length = i + 1 := by rw [List.length_append, hgl]; rfl
      have ol : Ol H5 t (some (gv.map V.int ++ [V.int 0])) := Ol.flat e5 (by omega) fun x hx => by
        rcases List.mem_append.mp hx with hx | hx
        · exact flI hx
        · rw [List.mem_singleton.mp hx]; exact FlV.int _
      exact fin H5 p t _ _ (hD3.same s5) (k3.trans (Same.keep s5)) hp (kfree k3 hD3 ht3) (olp (Same.keep s5)) ol (bel_no (belF_len (by omega))) r hr
    walk_at "x"
    refine x_ite (fun c6 => ?_) (fun c6 => ?_)
    · walk_at "x"
      refine x_len (sq_of eg) ?_
      walk_at "x"
      rw [hgl]
      refine x_ite (fun cl => ?_) (fun cl => ?_)
      · walk_at "x"
        refine x_sl2 ?_
        walk_at "x"
        refine x_part1 ?_
        walk_at "x"
        refine ⟨_, rfl, x_part0 ?_⟩
        refine x_cutL (sq_of eg) fun t ht => ?_
        rw [show cutV (gv.map V.int) (some 1) none = (gv.map V.int).drop 1 from cutV_from (k := 1) (by omega)]
        have s5 := same_upd (o := .lst ((gv.map V.int).drop 1)) ht
        have e5 : (upd H3 t (.lst ((gv.map V.int).drop 1))) t = _ := upd_same
        have hlen : ((gv.map V.int).drop 1).length = i - 1 := by rw [List.length_drop, hgl]
        generalize upd H3 t (.lst ((gv.map V.int).drop 1)) = H5 at s5 e5
        walk_at "x"
        refine ⟨by show 2 ≤ sizeLine; decide, fun r hr => ?_⟩
        have ol : Ol H5 t (some ((gv.map V.int).drop 1)) := Ol.flat e5 (by omega) fun x hx => flI (List.mem_of_mem_drop hx)
        exact fin H5 p t _ _ (hD3.same s5) (k3.trans (Same.keep s5)) hp (kfree k3 hD3 ht) (olp (Same.keep s5)) ol (bel_no (belF_len (by omega))) r hr
      walk_at "x"
      refine x_ite (fun h => absurd h (by omega)) (fun _ => ?_)
      walk_at "f"
      walk_at "x"
      refine x_tupL (sq_of eg) fun t ht => ?_
      have s4 := same_upd (o := .tup (gv.map V.int)) ht
      have e4 : (upd H3 t (.tup (gv.map V.int))) t = _ := upd_same
      generalize upd H3 t (.tup (gv.map V.int)) = H4 at s4 e4
      walk_at "x"
      refine ⟨by show 2 ≤ sizeLine; decide, fun r hr => ?_⟩
      exact fin H4 p t _ none (hD3.same s4) (k3.trans (Same.keep s4)) hp (kfree k3 hD3 ht) (olp (Same.keep s4)) (.inr ⟨rfl, _, e4⟩) (bel_no rfl) r hr
    walk_at "f"
    walk_at "x"
    refine x_ite (fun c7 => ?_) (fun c7 => ?_)
    · walk_at "x"
      refine x_len (sq_of eg) ?_
      walk_at "x"
      rw [hgl]
      refine x_ite (fun cl => ?_) (fun cl => ?_)
      · walk_at "x"
        refine ⟨d, n, m, rfl, hD3, ?_⟩
        rintro b H4 hb hD4 k4
        walk_at "x"
        refine ⟨d, n, g, gv.map V.int, b, rfl, k4 _ _ eg hgd, hgd, by omega, by omega, hD4, ?_⟩
        rintro _ H5 ⟨t, a, rfl, ht, ha, e5⟩ hD5 k5
        obtain ⟨fb, nb⟩ := hb.flat (by omega)
        have k35 := k4.trans k5
        walk_at "x"
        refine ⟨by show 2 ≤ sizeLine; decide, fun r hr => ?_⟩
        have hmem : b ∈ (gv.map V.int).take a ++ [b] ++ (gv.map V.int).drop (a + 1) := List.mem_append_left _ (List.mem_append_right _ (List.mem_singleton.mpr rfl))
        have ol : Ol H5 t (some ((gv.map V.int).take a ++ [b] ++ (gv.map V.int).drop (a + 1))) := Ol.flat e5 (by rw [List.length_append, List.length_append, List.length_take, List.length_drop]; show _ + 1 + _ ≤ 200; omega) fun x hx => by
          rcases List.mem_append.mp hx with hx | hx
          · rcases List.mem_append.mp hx with hx | hx
            · exact flI (List.mem_of_mem_take hx)
            · rw [List.mem_singleton.mp hx]; exact fb
          · exact flI (List.mem_of_mem_drop hx)
        exact fin H5 p t _ _ hD5 (k3.trans k35) hp (kfree k3 hD3 (kfree k4 hD4 ht)) (olp k35) ol (bel_no (belF_bad hmem nb)) r hr
      walk_at "x"
      refine x_tupL (sq_of eg) fun t ht => ?_
      have s4 := same_upd (o := .tup (gv.map V.int)) ht
      have e4 : (upd H3 t (.tup (gv.map V.int))) t = _ := upd_same
      generalize upd H3 t (.tup (gv.map V.int)) = H4 at s4 e4
      walk_at "x"
      refine ⟨by show 2 ≤ sizeLine; decide, fun r hr => ?_⟩
      exact fin H4 p t _ none (hD3.same s4) (k3.trans (Same.keep s4)) hp (kfree k3 hD3 ht) (olp (Same.keep s4)) (.inr ⟨rfl, _, e4⟩) (bel_no rfl) r hr
    walk_at "f"
    walk_at "x"
    refine x_tupL (sq_of eg) fun t ht => ?_
    have s4 := same_upd (o := .tup (gv.map V.int)) ht
    have e4 : (upd H3 t (.tup (gv.map V.int))) t = _ := upd_same
    generalize upd H3 t (.tup (gv.map V.int)) = H4 at s4 e4
    walk_at "x"
    refine ⟨by show 2 ≤ sizeLine; decide, fun r hr => ?_⟩
    exact fin H4 p t _ none (hD3.same s4) (k3.trans (Same.keep s4)) hp (kfree k3 hD3 ht) (olp (Same.keep s4)) (.inr ⟨rfl, _, e4⟩) (bel_no rfl) r hr


end
end Br
namespace Br
open PySem PySem.Spec PyProof.Rows L2
local macro_rules | `(tactic| walk_at "x1") => `(tactic| (with_reducible first
  | refine Br.x_seq ?_ | refine Br.x_set ?_ | refine Br.x_asg ?_ | refine Br.x_next ?_ | refine Br.x_ret ?_ | refine Br.x_retN ?_ | refine Br.x_drop ?_ | refine Br.x_if ?_ | refine Br.x_brk ?_ | refine Br.x_cont ?_
  | refine Br.x_c ?_ | refine Br.x_op ?_ | refine Br.x_un ?_ | refine Br.x_I0 ?_ | refine Br.x_U ?_ | refine Br.x_EqI ?_ | refine Br.x_NeI ?_ | refine Br.x_EqB ?_ | refine Br.x_iN ?_ | refine Br.x_int1 ?_ | refine Br.x_min2 ?_ | refine Br.x_max2 ?_ | refine Br.x_nN ?_ | refine Br.x_ifE ?_
  | refine Br.x_test (b := ()) ?_ | refine Br.x_tB ?_ | refine Br.x_bl ?_ | refine Br.x_and ?_ | refine Br.x_or ?_ | refine Br.x_not ?_ | refine Br.x_andV ?_ | refine Br.x_orV ?_ | refine Br.x_notV ?_ | refine Br.x_blP ?_
  | refine Br.x_nil ?_ | refine Br.x_cons ?_ | refine Br.x_call ?_ | refine Br.x_CB ?_ | refine Br.x_BM ?_ | refine Br.x_tup ?_ | refine Br.x_lst ?_ | refine Br.x_chain ?_ | refine Br.x_par ?_ | refine Br.x_gSub ?_ | refine Br.x_gName ?_ | refine Br.x_fld ?_ | refine Br.x_fldS ?_ | refine Br.x_match ?_ | refine Br.x_else ?_ | refine Br.x_noCase ?_))
local macro_rules | `(tactic| walk_at "xv") => `(tactic| ((with_reducible refine' Br.x_var ?hvar ?_); (case hvar => rfl)))
local macro_rules | `(tactic| walk_at "xd") => `(tactic| (dsimp only [List.set_cons_zero, List.set_cons_succ, List.cons_append, List.nil_append, List.append_nil]))
local macro_rules | `(tactic| walk_at "xi") => `(tactic| ((with_reducible refine Br.x_I ?hside ?_); (case hside => first | exact Br.mul_r (by decide) (by decide) | exact Br.mul_l (by decide) (by decide) | exact Br.mul_l (by omega) (by omega) | exact Br.mul_r (by omega) (by omega) | (show (0 : Int) < _; first | decide | omega) | exact ⟨by decide, by decide⟩ | exact ⟨by omega, by omega⟩ | exact ⟨by decide, by decide, by decide⟩)))
local macro_rules | `(tactic| walk_at "x") => `(tactic| (repeat (first | walk_at "x1" | walk_at "xv" | walk_at "xi" | walk_at "xd")))
local macro_rules | `(tactic| walk_at "start") => `(tactic| (simp only [L2.start, List.map_cons, List.map_nil, List.length_cons, List.length_nil, Nat.reduceAdd, Nat.reduceSub, List.replicate, List.cons_append, List.nil_append, List.append_nil]))
local macro_rules | `(tactic| walk_at "isi") => `(tactic| first
  | refine Br.x_isi (b := true) (.base (.int _)) (by decide +kernel) ?_ | refine Br.x_isi (b := false) (.base (.int _)) (by decide +kernel) ?_
  | refine Br.x_isi (b := true) (.base (.bl _)) (by decide +kernel) ?_ | refine Br.x_isi (b := false) (.base (.bl _)) (by decide +kernel) ?_
  | refine Br.x_isi (b := false) (.base .non) (by decide +kernel) ?_
  | refine Br.x_isi (b := true) (.base (.str _)) (by decide +kernel) ?_ | refine Br.x_isi (b := false) (.base (.str _)) (by decide +kernel) ?_
  | refine Br.x_isi (b := true) (.base (.tup (by assumption))) (by decide +kernel) ?_ | refine Br.x_isi (b := false) (.base (.tup (by assumption))) (by decide +kernel) ?_
  | refine Br.x_isi (b := true) (.base (.lst (by assumption))) (by decide +kernel) ?_ | refine Br.x_isi (b := false) (.base (.lst (by assumption))) (by decide +kernel) ?_)
local macro_rules | `(tactic| walk_at "f") => `(tactic| (refine L2.iteF ?_; walk_at "x"))
local macro_rules | `(tactic| walk_at "t") => `(tactic| (refine L2.iteT ?_; walk_at "x"))
local macro_rules | `(tactic| walk_at "is") => `(tactic| (walk_at "isi"; walk_at "x"))
local macro_rules | `(tactic| walk_at "xb") => `(tactic| (simp only [Br.bindS, List.set_cons_zero, List.set_cons_succ]; walk_at "x"))

section
variable {P : Program} {w : World} {K : PySem.W.Frag} {mg : Str → Option Value} {base : Heap}

open Br Br.F
theorem x_nt {A B : Prop} (h : B) : if (!true) = true then A else B := h
theorem x_nf {A B : Prop} (h : A) : if (!false) = true then A else B := h
theorem x_methXV {C : Addr} {m : Str} {sp : Sp} {E : L2.St → XK} {ta : TE} {t : TA} {σ : L2.St} {H : Hp} {Q : VK} (h : ta σ H fun x H1 => ∃ a dx fs, x = .ref a ∧ H1 a = some (.ins C dx fs) ∧ fs.lookup m = none ∧ t σ H1 fun vs H2 => sp (x :: vs) H2 Q (E σ)) : tMethX C m sp E ta t σ H Q := h
theorem kit3v {K : PySem.W.Frag} {t a b c : Value} (h1 : PySem.W.kitOne K t a = some false) (h2 : PySem.W.kitOne K t b = some false) (h3 : PySem.W.kitOne K t c = some false) : PySem.W.kitAny K t [a, b, c] = some false :=
  kitAny_cons h1 (fun _ => kitAny_cons h2 (fun _ => kitAny_cons h3 (fun _ => kitAny_nil) (fun z => nomatch z)) (fun z => nomatch z)) (fun z => nomatch z)
theorem kit2v {K : PySem.W.Frag} {t a b : Value} (h1 : PySem.W.kitOne K t a = some false) (h2 : PySem.W.kitOne K t b = some false) : PySem.W.kitAny K t [a, b] = some false :=
  kitAny_cons h1 (fun _ => kitAny_cons h2 (fun _ => kitAny_nil) (fun z => nomatch z)) (fun z => nomatch z)

def sp_law_lent (CV CL CP : Addr) (K : PySem.W.Frag) : Sp := fun vs H Q _ => ∃ (d v M D p L : Addr) (x1 x2 : V) (o1 o2 : Option (List V)) (AV : Addr → Prop) (m m' nt c i : Nat) (mem : List Int) (ls : Lns) (as : List Addr) (ss : List Stp), vs = [.ref v, .ref p, x1, x2] ∧ VaAt K CV CL AV H v M D m nt mem ls ∧ LC K CL ∧ PrAt K CP H p L as ss m' c i ∧ PrOk ss m' c i ∧
  NumsAt d H x1 o1 ∧ NumsAt d H x2 o2 ∧ ls.length ≤ 1000 ∧ (∀ b, AV b → H b ≠ none) ∧
  (m' ≠ m → ∀ l H', Same H H' → H' l = some (.tup [.str "refused", .str "step"]) → Q (.ref l) H') ∧
  (m' = m → ¬ (PlsOk o1 c mem.length ∧ belF o2 (i : Int) (m : Int) = true) → ∀ l H', Same H H' → H' l = some (.tup [.str "refused", .str "memory"]) → Q (.ref l) H') ∧
  (m' = m → ∀ (P0 G0 : Addr) (pl : List Nat) (gv : List Int), x1 = .ref P0 → x2 = .ref G0 → H P0 = some (.lst (cInts pl)) → H G0 = some (.lst (gv.map V.int)) → pl.length = c → pl.Nodup → (∀ k, k ∈ pl → k < mem.length) → Mem m i gv →
    ∀ (a : Addr) (H' : Hp), H a = none → VaAt K CV CL AV H' v M D m (nt + 1) mem (ls ++ [(nt, a, ⟨ss, c, i, pl, gv, mem.getD (pl.getD 0 0) 0, 0⟩)]) → KeepS (fun b => b = v ∨ b = D) H H' → Q (.int (nt : Int)) H')
theorem ok_law_lent (T : Txt K mg) : FnOk P w K mg base CX0 5 T.a_law_lent T.fd_law_lent ["vault", "program", "places", "given"] (sp_law_lent T.C_Vault T.C_Loan T.C_Program K) := by
  refine T.F_law_lent.ok sc_law_lent (fun vs H Q E h => ?_) (fun cdv A outer s H vs Q E hr h => ?_)
  · obtain ⟨d, v, M, D, p, L, x1, x2, o1, o2, AV, m, m', nt, c, i, mem, ls, as, ss, rfl, _⟩ := h
    rfl
  · obtain ⟨d, v, M, D, p, L, x1, x2, o1, o2, AV, m, m', nt, c, i, mem, ls, as, ss, rfl, hV, lc, hP, ok, hN1, hN2, hl9, hal, q0, q1, q⟩ := h
    obtain ⟨dx, h1⟩ := hV.ob
    refine ⟨_, (pss_cons (ps_try_as (i := 4) rfl rfl sc_law_lent.nd rfl rfl ⟨rfl, by decide, .inl T.gE_BrimfulError⟩ takes0 (fun W pn xe tk _ => (pss_one (ps_ret (pe_methX (sp := sp_Vault_lend T.C_Vault T.C_Loan T.C_Program T.E_BadStep T.E_BadMemory K) (E := WE W) (pv 0) T.cl_Vault T.me_Vault_lend (ok_Vault_lend T) (hr.mono (by decide)) T.b_Vault_lend (fun σ => passAt tk σ) (pa_cons (pv 1) (pa_cons (pv 2) (pa_cons (pv 3) pa_nil)))))))
      (fun a oe cls d pn hz hf => (pss_cons (ps_if (PW.pt (pw_and (pt_val (pe_callB (id := "isinstance") (r := rIsEQ K a cls d) (call_isEQ rfl hz hf) (by rfl) T.m_isinstance (by decide +kernel) (pa_cons (pv 4) (pa_cons (pe_glob (v := .ref T.E_BadStep) (by rfl) T.gE_BadStep rfl) pa_nil)))) (pw_and1 (pt_not (pt_val (pe_callB (id := "isinstance") (r := rIsEQ K a cls d) (call_isEQ rfl hz hf) (by rfl) T.m_isinstance (by decide +kernel) (pa_cons (pv 4) (pa_cons (pe_glob (v := .ref T.E_BadMemory) (by rfl) T.gE_BadMemory rfl) pa_nil))))))))
      (pss_one (ps_ret (pe_tup (pa_cons pe_str (pa_cons pe_str pa_nil)))))
      pss_nil)
      (pss_one (ps_if (PW.pt (pw_and (pt_val (pe_callB (id := "isinstance") (r := rIsEQ K a cls d) (call_isEQ rfl hz hf) (by rfl) T.m_isinstance (by decide +kernel) (pa_cons (pv 4) (pa_cons (pe_glob (v := .ref T.E_BadMemory) (by rfl) T.gE_BadMemory rfl) pa_nil)))) (pw_and1 (pt_not (pt_val (pe_callB (id := "isinstance") (r := rIsEQ K a cls d) (call_isEQ rfl hz hf) (by rfl) T.m_isinstance (by decide +kernel) (pa_cons (pv 4) (pa_cons (pe_glob (v := .ref T.E_BadStep) (by rfl) T.gE_BadStep rfl) pa_nil))))))))
      (pss_one (ps_ret (pe_tup (pa_cons pe_str (pa_cons pe_str pa_nil)))))
      pss_nil)))))
      (pss_one (ps_ret (pe_tup (pa_cons pe_str (pa_cons pe_str pa_nil)))))), ?_⟩
    walk_at "start"
    walk_at "x"
    refine x_methXV ?_
    walk_at "x"
    refine ⟨v, dx, _, rfl, h1, rfl, ?_⟩
    walk_at "x"
    refine ⟨d, v, M, D, p, L, x1, x2, o1, o2, AV, m, m', nt, c, i, mem, ls, as, ss, rfl, hV, lc, hP, ok, hN1, hN2, hl9, hal, fun hne => ?_, fun he hno H1 s1 => ?_, fun he => q he⟩
    · refine ⟨true, PySem.W.exm_ref T.bE_BrimfulError T.dE_BrimfulError T.tE_BrimfulError T.sE_BadStep_BrimfulError, (fun _ a ha => ?_), (fun z => nomatch z)⟩
      walk_at "x"
      refine ⟨_, _, true, rfl, rfl, T.cE_BadStep, rfl, kit_ref T.dE_BadStep T.tE_BadStep T.sE_BadStep_BadStep T.sE_BadStep_BadStep, ?_⟩
      walk_at "x"
      walk_at "t"
      refine ⟨_, _, false, rfl, rfl, T.cE_BadStep, rfl, kit_ref T.dE_BadMemory T.tE_BadMemory T.sE_BadStep_BadMemory T.sE_BadMemory_BadMemory, ?_⟩
      walk_at "x"
      refine x_nf ?_
      walk_at "x"
      refine ⟨by show 2 ≤ sizeLine; decide, fun l hl => ?_⟩
      exact q0 hne l _ (same_upd hl) upd_same
    · refine ⟨true, PySem.W.exm_ref T.bE_BrimfulError T.dE_BrimfulError T.tE_BrimfulError T.sE_BadMemory_BrimfulError, (fun _ a ha => ?_), (fun z => nomatch z)⟩
      walk_at "x"
      refine ⟨_, _, false, rfl, rfl, T.cE_BadMemory, rfl, kit_ref T.dE_BadStep T.tE_BadStep T.sE_BadMemory_BadStep T.sE_BadStep_BadStep, ?_⟩
      walk_at "x"
      walk_at "f"
      walk_at "f"
      walk_at "x"
      refine ⟨_, _, true, rfl, rfl, T.cE_BadMemory, rfl, kit_ref T.dE_BadMemory T.tE_BadMemory T.sE_BadMemory_BadMemory T.sE_BadMemory_BadMemory, ?_⟩
      walk_at "x"
      walk_at "t"
      refine ⟨_, _, false, rfl, rfl, T.cE_BadMemory, rfl, kit_ref T.dE_BadStep T.tE_BadStep T.sE_BadMemory_BadStep T.sE_BadStep_BadStep, ?_⟩
      walk_at "x"
      refine x_nf ?_
      walk_at "x"
      refine ⟨by show 2 ≤ sizeLine; decide, fun l hl => ?_⟩
      exact q1 he hno l _ (s1.trans (same_upd hl)) upd_same


def sp_law_is_ticket (CV : Addr) (K : PySem.W.Frag) : Sp := fun vs H Q _ => ∃ (CL v M D : Addr) (AV : Addr → Prop) (m nt : Nat) (mem : List Int) (ls : Lns) (t : V) (pick : Int), vs = [.ref v, t, .int pick] ∧ VaAt K CV CL AV H v M D m nt mem ls ∧ ls.length ≤ 1000 ∧ Odd H t ∧ openAt ls t = none ∧ ∀ H', Same H H' → Q (.bl false) H'
theorem ok_law_is_ticket (T : Txt K mg) : FnOk P w K mg base CX0 8 T.a_law_is_ticket T.fd_law_is_ticket ["vault", "ticket", "pick"] (sp_law_is_ticket T.C_Vault K) := by
  refine T.F_law_is_ticket.ok sc_law_is_ticket (fun vs H Q E h => ?_) (fun cdv A outer s H vs Q E hr h => ?_)
  · obtain ⟨CL, v, M, D, AV, m, nt, mem, ls, t, pick, rfl, _⟩ := h
    rfl
  · obtain ⟨CL, v, M, D, AV, m, nt, mem, ls, t, pick, rfl, hV, hl9, ht, ho, q⟩ := h
    obtain ⟨dx, h1⟩ := hV.ob
    have no1 : ∀ {y : Nat × Addr × Ln} {p : Prop}, openAt ls t = some y → p := fun e => by rw [ho] at e; cases e
    refine ⟨_, (pss_cons (ps_try_as (i := 3) rfl rfl sc_law_is_ticket.nd rfl rfl ⟨rfl, by decide, .inl T.gE_BadTicket⟩ takes0 (fun W pn xe tk _ => (pss_one (ps_if (pt_cmpR op_eq (pv 2) pe_int (nomark _))
      (pss_one (ps_expr (pe_methX (sp := sp_Vault_advance T.C_Vault T.E_BadTicket T.E_Busy K) (E := WE W) (pv 0) T.cl_Vault T.me_Vault_advance (ok_Vault_advance T) (hr.mono (by decide)) T.b_Vault_advance (fun σ => passAt tk σ) (pa_cons (pv 1) (pa_cons pe_int pa_nil)))))
      (pss_one (ps_if (pt_cmpR op_eq (pv 2) pe_int (nomark _))
      (pss_one (ps_expr (pe_methX (sp := sp_Vault_answer T.C_Vault T.E_BadTicket T.E_Busy K) (E := WE W) (pv 0) T.cl_Vault T.me_Vault_answer (ok_Vault_answer T) (hr.mono (by decide)) T.b_Vault_answer (fun σ => passAt tk σ) (pa_cons (pv 1) pa_nil))))
      (pss_one (ps_expr (pe_methX (sp := sp_Vault_recall T.C_Vault T.E_BadTicket T.E_Busy K) (E := WE W) (pv 0) T.cl_Vault T.me_Vault_recall (ok_Vault_recall T) (hr.mono (by decide)) T.b_Vault_recall (fun σ => passAt tk σ) (pa_cons (pv 1) pa_nil)))))))))
      (fun a oe cls d pn hz hf => (pss_one (ps_ret (pe_or (pe_not (pe_callB (id := "isinstance") (r := rIsEQ K a cls d) (call_isEQ rfl hz hf) (by rfl) T.m_isinstance (by decide +kernel) (pa_cons (pv 3) (pa_cons (pe_glob (v := .ref T.E_BrimfulError) (by rfl) T.gE_BrimfulError rfl) pa_nil)))) (pe_one (pe_callB (id := "isinstance") (r := rIsEQT K a cls d) (call_isEQT rfl hz hf) (by rfl) T.m_isinstance (by decide +kernel) (pa_cons (pv 3) (pa_cons (pe_tup (pa_cons (pe_glob (v := .ref T.E_BadMemory) (by rfl) T.gE_BadMemory rfl) (pa_cons (pe_glob (v := .ref T.E_BadStep) (by rfl) T.gE_BadStep rfl) (pa_cons (pe_glob (v := .ref T.E_Busy) (by rfl) T.gE_Busy rfl) pa_nil)))) pa_nil)))))))))
      (pss_one (ps_ret pe_bl))), ?_⟩
    walk_at "start"
    walk_at "x"
    refine x_ite (fun c1 => ?_) (fun c1 => ?_)
    · walk_at "x"
      refine x_methXV ?_
      walk_at "x"
      refine ⟨v, dx, _, rfl, h1, rfl, ?_⟩
      walk_at "x"
      refine ⟨CL, v, M, D, AV, m, nt, mem, ls, t, 0, rfl, hV, ht, hl9, by decide, fun ho H1 s1 => ?_, fun y hy => no1 hy, fun y hy => no1 hy⟩
      refine ⟨true, PySem.W.exm_ref T.bE_BadTicket T.dE_BadTicket T.tE_BadTicket T.sE_BadTicket_BadTicket, (fun _ a ha => ?_), (fun z => nomatch z)⟩
      walk_at "x"
      refine ⟨_, _, true, rfl, rfl, T.cE_BadTicket, rfl, kit_ref T.dE_BrimfulError T.tE_BrimfulError T.sE_BadTicket_BrimfulError T.sE_BrimfulError_BrimfulError, ?_⟩
      walk_at "x"
      refine x_nt ?_
      walk_at "x"
      refine ⟨by show 3 ≤ sizeLine; decide, fun r hr => ?_⟩
      have s2 := same_upd (o := .tup [.ref T.E_BadMemory, .ref T.E_BadStep, .ref T.E_Busy]) hr
      walk_at "x"
      refine ⟨_, r, _, _, false, rfl, rfl, T.cE_BadTicket, rfl, upd_same, .cons (.own _) (.cons (.own _) (.cons (.own _) .nil)), kit3v (kit_ref T.dE_BadMemory T.tE_BadMemory T.sE_BadTicket_BadMemory T.sE_BadMemory_BadMemory) (kit_ref T.dE_BadStep T.tE_BadStep T.sE_BadTicket_BadStep T.sE_BadStep_BadStep) (kit_ref T.dE_Busy T.tE_Busy T.sE_BadTicket_Busy T.sE_Busy_Busy), ?_⟩
      exact q _ (s1.trans s2)
    · walk_at "x"
      refine x_ite (fun c2 => ?_) (fun c2 => ?_)
      · walk_at "x"
        refine x_methXV ?_
        walk_at "x"
        refine ⟨v, dx, _, rfl, h1, rfl, ?_⟩
        walk_at "x"
        refine ⟨CL, v, M, D, AV, m, nt, mem, ls, t, rfl, hV, ht, hl9, fun ho H1 s1 => ?_, fun y hy => no1 hy, fun y hy => no1 hy⟩
        refine ⟨true, PySem.W.exm_ref T.bE_BadTicket T.dE_BadTicket T.tE_BadTicket T.sE_BadTicket_BadTicket, (fun _ a ha => ?_), (fun z => nomatch z)⟩
        walk_at "x"
        refine ⟨_, _, true, rfl, rfl, T.cE_BadTicket, rfl, kit_ref T.dE_BrimfulError T.tE_BrimfulError T.sE_BadTicket_BrimfulError T.sE_BrimfulError_BrimfulError, ?_⟩
        walk_at "x"
        refine x_nt ?_
        walk_at "x"
        refine ⟨by show 3 ≤ sizeLine; decide, fun r hr => ?_⟩
        have s2 := same_upd (o := .tup [.ref T.E_BadMemory, .ref T.E_BadStep, .ref T.E_Busy]) hr
        walk_at "x"
        refine ⟨_, r, _, _, false, rfl, rfl, T.cE_BadTicket, rfl, upd_same, .cons (.own _) (.cons (.own _) (.cons (.own _) .nil)), kit3v (kit_ref T.dE_BadMemory T.tE_BadMemory T.sE_BadTicket_BadMemory T.sE_BadMemory_BadMemory) (kit_ref T.dE_BadStep T.tE_BadStep T.sE_BadTicket_BadStep T.sE_BadStep_BadStep) (kit_ref T.dE_Busy T.tE_Busy T.sE_BadTicket_Busy T.sE_Busy_Busy), ?_⟩
        exact q _ (s1.trans s2)
      · walk_at "x"
        refine x_methXV ?_
        walk_at "x"
        refine ⟨v, dx, _, rfl, h1, rfl, ?_⟩
        walk_at "x"
        refine ⟨CL, v, M, D, AV, m, nt, mem, ls, t, rfl, hV, ht, hl9, fun ho H1 s1 => ?_, fun y hy => no1 hy, fun y hy => no1 hy⟩
        refine ⟨true, PySem.W.exm_ref T.bE_BadTicket T.dE_BadTicket T.tE_BadTicket T.sE_BadTicket_BadTicket, (fun _ a ha => ?_), (fun z => nomatch z)⟩
        walk_at "x"
        refine ⟨_, _, true, rfl, rfl, T.cE_BadTicket, rfl, kit_ref T.dE_BrimfulError T.tE_BrimfulError T.sE_BadTicket_BrimfulError T.sE_BrimfulError_BrimfulError, ?_⟩
        walk_at "x"
        refine x_nt ?_
        walk_at "x"
        refine ⟨by show 3 ≤ sizeLine; decide, fun r hr => ?_⟩
        have s2 := same_upd (o := .tup [.ref T.E_BadMemory, .ref T.E_BadStep, .ref T.E_Busy]) hr
        walk_at "x"
        refine ⟨_, r, _, _, false, rfl, rfl, T.cE_BadTicket, rfl, upd_same, .cons (.own _) (.cons (.own _) (.cons (.own _) .nil)), kit3v (kit_ref T.dE_BadMemory T.tE_BadMemory T.sE_BadTicket_BadMemory T.sE_BadMemory_BadMemory) (kit_ref T.dE_BadStep T.tE_BadStep T.sE_BadTicket_BadStep T.sE_BadStep_BadStep) (kit_ref T.dE_Busy T.tE_Busy T.sE_BadTicket_Busy T.sE_Busy_Busy), ?_⟩
        exact q _ (s1.trans s2)


def sp_law_is_memory (CV : Addr) (K : PySem.W.Frag) : Sp := fun vs H Q _ => ∃ (a : Addr) (y : V) (xs : List V), vs = [.ref a, y] ∧ Odd H y ∧
  ((isB y 1000000001 && !isB y 2) = false ∨ ∃ m : Nat, y = .int (m : Int) ∧ 2 ≤ m ∧ m ≤ 1000000000 ∧ (H a = some (.tup xs) ∨ (H a = some (.lst xs) ∧ xs.length ≤ 100000 ∧ (∀ x, x ∈ xs → Odd H x) ∧ memF xs (m : Int) = false))) ∧ ∀ H', Same H H' → Q (.bl false) H'
theorem ok_law_is_memory (T : Txt K mg) : FnOk P w K mg base CX0 6 T.a_law_is_memory T.fd_law_is_memory ["memory", "modulus"] (sp_law_is_memory T.C_Vault K) := by
  refine T.F_law_is_memory.ok sc_law_is_memory (fun vs H Q E h => ?_) (fun cdv A outer s H vs Q E hr h => ?_)
  · obtain ⟨a, y, xs, rfl, _⟩ := h
    rfl
  · obtain ⟨a, y, xs, rfl, hy, h, q⟩ := h
    have hCV : VC K T.C_Vault := ⟨T.cl_Vault, T.na_Vault__memory, T.na_Vault__modulus, T.na_Vault__loans, T.na_Vault__next_ticket⟩
    refine ⟨_, (pss_cons (ps_try_as (i := 2) rfl rfl sc_law_is_memory.nd rfl rfl ⟨rfl, by decide, .inl T.gE_BadMemory⟩ takes0 (fun W pn xe tk _ => (pss_one (ps_expr (pe_makeX (sp := sp_Vault___init T.E_BadMemory K) (E := WE W) T.mk_Vault (ok_Vault___init T) (hr.mono (by decide)) (by rfl) T.gc_Vault T.b_Vault___init (fun σ => passAt tk σ) (pa_cons (pv 0) (pa_cons (pv 1) pa_nil))))))
      (fun a oe cls d pn hz hf => (pss_one (ps_ret (pe_callB (id := "isinstance") (r := rIsEQT K a cls d) (call_isEQT rfl hz hf) (by rfl) T.m_isinstance (by decide +kernel) (pa_cons (pv 2) (pa_cons (pe_tup (pa_cons (pe_glob (v := .ref T.E_BadStep) (by rfl) T.gE_BadStep rfl) (pa_cons (pe_glob (v := .ref T.E_BadTicket) (by rfl) T.gE_BadTicket rfl) pa_nil))) pa_nil)))))))
      (pss_one (ps_ret pe_bl))), ?_⟩
    walk_at "start"
    walk_at "x"
    refine x_makeX ?_
    walk_at "x"
    intro x dx hx hdx hne
    have sx : Same H (upd (upd H dx (.own x)) x (.ins T.C_Vault dx [])) := (same_upd hdx).trans (same_upd (by rw [upd_ne hne.symm]; exact hx))
    have ex : (upd (upd H dx (.own x)) x (.ins T.C_Vault dx [])) x = some (.ins T.C_Vault dx []) := upd_same
    generalize upd (upd H dx (.own x)) x (.ins T.C_Vault dx []) = HX at sx ex
    refine ⟨x, T.C_Vault, dx, a, y, xs, rfl, ex, hCV, hy.same sx, ?_⟩
    rcases h with h0 | ⟨m, rfl, m2, m9, ha0 | ⟨ha0, hl, ho, h0⟩⟩
    · refine .inl ⟨h0, ?_⟩
      have s1 := sx
      refine ⟨true, PySem.W.exm_ref T.bE_BadMemory T.dE_BadMemory T.tE_BadMemory T.sE_BadMemory_BadMemory, (fun _ a ha => ?_), (fun z => nomatch z)⟩
      walk_at "x"
      refine ⟨by show 2 ≤ sizeLine; decide, fun r hr => ?_⟩
      have s2 := same_upd (o := .tup [.ref T.E_BadStep, .ref T.E_BadTicket]) hr
      walk_at "x"
      refine ⟨_, r, _, _, false, rfl, rfl, T.cE_BadMemory, rfl, upd_same, .cons (.own _) (.cons (.own _) .nil), kit2v (kit_ref T.dE_BadStep T.tE_BadStep T.sE_BadMemory_BadStep T.sE_BadStep_BadStep) (kit_ref T.dE_BadTicket T.tE_BadTicket T.sE_BadMemory_BadTicket T.sE_BadTicket_BadTicket), ?_⟩
      exact q _ (s1.trans s2)
    · refine .inr ⟨m, rfl, m2, m9, .inl ⟨sx _ _ ha0, ?_⟩⟩
      have s1 := sx
      refine ⟨true, PySem.W.exm_ref T.bE_BadMemory T.dE_BadMemory T.tE_BadMemory T.sE_BadMemory_BadMemory, (fun _ a ha => ?_), (fun z => nomatch z)⟩
      walk_at "x"
      refine ⟨by show 2 ≤ sizeLine; decide, fun r hr => ?_⟩
      have s2 := same_upd (o := .tup [.ref T.E_BadStep, .ref T.E_BadTicket]) hr
      walk_at "x"
      refine ⟨_, r, _, _, false, rfl, rfl, T.cE_BadMemory, rfl, upd_same, .cons (.own _) (.cons (.own _) .nil), kit2v (kit_ref T.dE_BadStep T.tE_BadStep T.sE_BadMemory_BadStep T.sE_BadStep_BadStep) (kit_ref T.dE_BadTicket T.tE_BadTicket T.sE_BadMemory_BadTicket T.sE_BadTicket_BadTicket), ?_⟩
      exact q _ (s1.trans s2)
    · refine .inr ⟨m, rfl, m2, m9, .inr ⟨sx _ _ ha0, hl, fun x hx => (ho x hx).same sx, fun _ H1 s1 => ?_, fun mem e hm n1 n2 => ?_⟩⟩
      · have s1 := sx.trans s1
        refine ⟨true, PySem.W.exm_ref T.bE_BadMemory T.dE_BadMemory T.tE_BadMemory T.sE_BadMemory_BadMemory, (fun _ a ha => ?_), (fun z => nomatch z)⟩
        walk_at "x"
        refine ⟨by show 2 ≤ sizeLine; decide, fun r hr => ?_⟩
        have s2 := same_upd (o := .tup [.ref T.E_BadStep, .ref T.E_BadTicket]) hr
        walk_at "x"
        refine ⟨_, r, _, _, false, rfl, rfl, T.cE_BadMemory, rfl, upd_same, .cons (.own _) (.cons (.own _) .nil), kit2v (kit_ref T.dE_BadStep T.tE_BadStep T.sE_BadMemory_BadStep T.sE_BadStep_BadStep) (kit_ref T.dE_BadTicket T.tE_BadTicket T.sE_BadMemory_BadTicket T.sE_BadTicket_BadTicket), ?_⟩
        exact q _ (s1.trans s2)
      · exfalso
        have e2 := hm.odd
        rw [Bool.and_eq_true] at e2
        rw [e, memF_yes (by rw [List.length_map]; omega), e2.2] at h0
        cases h0


def sp_law_no_memories (CV : Addr) (K : PySem.W.Frag) : Sp := fun vs H Q _ => ∃ (d n a : Addr) (m : Nat) (mem : List Int), vs = [.ref d, .ref a, .int (m : Int)] ∧ H a = some (.lst (mem.map V.int)) ∧ a ≠ d ∧ 1 ≤ mem.length ∧ mem.length ≤ 200 ∧ 2 ≤ m ∧ m ≤ 1000000000 ∧ Dr H d n ∧ RetG d n (fun v _ => v = .bl true) H Q
theorem ok_law_no_memories (T : Txt K mg) : FnOk P w K mg base CX0 7 T.a_law_no_memories T.fd_law_no_memories ["draws", "memory", "modulus"] (sp_law_no_memories T.C_Vault K) := by
  refine T.F_law_no_memories.ok sc_law_no_memories (fun vs H Q E h => ?_) (fun cdv A outer s H vs Q E hr h => ?_)
  · obtain ⟨d, n, a, m, mem, rfl, _⟩ := h
    rfl
  · obtain ⟨d, n, a, m, mem, rfl, ha, had, n1, n2, m2, m9, hD, q⟩ := h
    have hml : (mem.map V.int).length = mem.length := List.length_map ..
    refine ⟨_, (pss_cons (ps_set (i := 3) sc_law_no_memories.nd rfl (.inl rfl) (pe_lst (pa_cons (pe_lst pa_nil) (pa_cons (pe_op op_rep (pe_lst (pa_cons pe_int pa_nil)) pe_int) (pa_cons (pe_callTy (T := "tuple") (r := rTupOf K) cr_tup_of (by rfl) T.m_tuple (by decide +kernel) (pa_cons (pv 1) pa_nil)) (pa_cons (pe_call (ok_law_with T) (hr.mono (by decide)) (by rfl) T.g_law_with T.F_law_with.kp T.b_law_with .nil pass0 (pa_cons (pv 0) (pa_cons (pv 1) (pa_cons (pe_call (ok_law_bad T) (hr.mono (by decide)) (by rfl) T.g_law_bad T.F_law_bad.kp T.b_law_bad .nil pass0 (pa_cons (pv 0) (pa_cons (pv 2) pa_nil))) pa_nil)))) pa_nil))))))
      (pss_cons (ps_if (pt_cmpR op_gt (pe_callB (id := "len") (r := rLen K) cr_len (by rfl) T.m_len PySem.boot_len (pa_cons (pe_lc (own := [("row", 4)]) (g := gName 4) (tt := _) rfl sc_law_no_memories.nd (pi_list (pv 3)) (blkOk_by (N := N_law_no_memories) (sc := defScope s_law_no_memories) (by decide +kernel)) (fun _ _ _ _ _ => (pg_name (i := 4) sc_law_no_memories.nd rfl (Or.inl rfl))) (fun _ _ _ _ _ => (pts_one (pt_val (pe_call (ok_law_is_memory T) hr (by rfl) T.g_law_is_memory T.F_law_is_memory.kp T.b_law_is_memory .nil pass0 (pa_cons (pv 4) (pa_cons (pv 2) pa_nil)))))) (fun _ _ _ _ _ => pe_int)) pa_nil)) pe_int (nomark _))
      (pss_one (ps_ret pe_bl))
      pss_nil)
      (pss_one (ps_ret (pe_not (pe_call (ok_law_is_memory T) hr (by rfl) T.g_law_is_memory T.F_law_is_memory.kp T.b_law_is_memory .nil pass0 (pa_cons (pe_lst (pa_cons pe_int pa_nil)) (pa_cons (pe_ix (r := rIxL K) ix_list (pe_lst (pa_cons pe_int (pa_cons pe_int (pa_cons (pe_op op_add (pe_op op_pow pe_int pe_int) pe_int) (pa_cons pe_bl (pa_cons pe_non pa_nil)))))) (pe_op op_mod (pe_call (ok_law_draw T) (hr.mono (by decide)) (by rfl) T.g_law_draw T.F_law_draw.kp T.b_law_draw .nil pass0 (pa_cons (pv 0) pa_nil)) pe_int) (fun _ _ => rfl)) pa_nil)))))))), ?_⟩
    walk_at "start"
    walk_at "x"
    refine ⟨by show 0 ≤ sizeLine; decide, fun r1 hr1 => ?_⟩
    have s1 := same_upd (o := .lst []) hr1
    have e1 : (upd H r1 (.lst [])) r1 = some (.lst []) := upd_same
    generalize upd H r1 (.lst []) = H1 at s1 e1
    walk_at "x"
    refine ⟨by show 1 ≤ sizeLine; decide, fun r0 hr0 => ?_⟩
    have s2 := same_upd (o := .lst [V.int 0]) hr0
    have e0 : (upd H1 r0 (.lst [V.int 0])) r0 = some (.lst [V.int 0]) := upd_same
    generalize upd H1 r0 (.lst [V.int 0]) = H2 at s2 e0
    walk_at "x"
    refine ⟨r0, 201, [V.int 0], rfl, rfl, e0, by decide, by decide, by show 1 * 201 ≤ sizeLine; decide, fun r2 hr2 => ?_⟩
    have eR : (List.replicate (Int.toNat 201) [V.int 0]).flatten = List.replicate 201 (V.int 0) := by
      rw [show Int.toNat 201 = 201 by decide]
      exact List.flatten_replicate_singleton ..
    rw [eR]
    have s3 := same_upd (o := .lst (List.replicate 201 (V.int 0))) hr2
    have e2 : (upd H2 r2 (.lst (List.replicate 201 (V.int 0)))) r2 = some (.lst (List.replicate 201 (V.int 0))) := upd_same
    generalize upd H2 r2 (.lst (List.replicate 201 (V.int 0))) = H3 at s3 e2
    have s13 := (s1.trans s2).trans s3
    walk_at "x"
    refine x_tupL (sq_of (s13 _ _ ha)) fun r3 hr3 => ?_
    have s4 := same_upd (o := .tup (mem.map V.int)) hr3
    have e3 : (upd H3 r3 (.tup (mem.map V.int))) r3 = some (.tup (mem.map V.int)) := upd_same
    generalize upd H3 r3 (.tup (mem.map V.int)) = H4 at s4 e3
    have s14 := s13.trans s4
    have e1 := (s2.trans (s3.trans s4)) _ _ e1
    have e2 := s4 _ _ e2
    have hD4 := hD.same s14
    have f1 : r1 ≠ d := fun z => hD.ne (by rw [← z]; exact hr1)
    have f2 : r2 ≠ d := fun z => hD.ne (by rw [← z]; exact (s1.trans s2).free hr2)
    have f3 : r3 ≠ d := fun z => hD.ne (by rw [← z]; exact s13.free hr3)
    walk_at "x"
    refine ⟨d, n, m, rfl, hD4, ?_⟩
    rintro b H5 hb hD5 k5
    walk_at "x"
    refine ⟨d, n, a, mem.map V.int, b, rfl, k5 _ _ (s14 _ _ ha) had, had, by omega, by omega, hD5, ?_⟩
    rintro _ H6 ⟨r4, at0, rfl, hr4, hat, e4⟩ hD6 k6
    obtain ⟨fb, nb⟩ := hb.flat m9
    have k46 := k5.trans k6
    have e1 := k46 _ _ e1 f1
    have e2 := k46 _ _ e2 f2
    have e3 := k46 _ _ e3 f3
    have k6 := (Same.keep s14).trans k46
    walk_at "x"
    refine ⟨by show 4 ≤ sizeLine; decide, fun rw_ hrw => ?_⟩
    have s7 := same_upd (o := .lst [V.ref r1, .ref r2, .ref r3, .ref r4]) hrw
    have eW : (upd H6 rw_ (.lst [V.ref r1, .ref r2, .ref r3, .ref r4])) rw_ = some (.lst [V.ref r1, .ref r2, .ref r3, .ref r4]) := upd_same
    generalize upd H6 rw_ (.lst [V.ref r1, .ref r2, .ref r3, .ref r4]) = H7 at s7 eW
    have e1 := s7 _ _ e1
    have e2 := s7 _ _ e2
    have e3 := s7 _ _ e3
    have e4 := s7 _ _ e4
    have hD7 := hD6.same s7
    have k7 := k6.trans (Same.keep s7)
    have bads : ∀ x, x ∈ [V.ref r1, .ref r2, .ref r3, .ref r4] → ∀ H', Same H7 H' → ∃ (ad : Addr) (xs : List V), x = .ref ad ∧ (H' ad = some (.tup xs) ∨ (H' ad = some (.lst xs) ∧ xs.length ≤ 100000 ∧ (∀ x, x ∈ xs → Odd H' x) ∧ memF xs (m : Int) = false)) := by
      intro x hx H' s'
      simp only [List.mem_cons, List.not_mem_nil, or_false] at hx
      rcases hx with rfl | rfl | rfl | rfl
      · exact ⟨r1, [], rfl, .inr ⟨s' _ _ e1, by decide, fun x hx => (by cases hx), rfl⟩⟩
      · exact ⟨r2, _, rfl, .inr ⟨s' _ _ e2, by rw [List.length_replicate]; decide, fun x hx => by rw [List.eq_of_mem_replicate hx]; exact .int _, memF_no (by rw [List.length_replicate]; omega)⟩⟩
      · exact ⟨r3, _, rfl, .inl (s' _ _ e3)⟩
      · refine ⟨r4, _, rfl, .inr ⟨s' _ _ e4, ?_, fun x hx => ?_, ?_⟩⟩
        · rw [List.length_append, List.length_append, List.length_take, List.length_drop]; show _ + 1 + _ ≤ 100000; omega
        · rcases List.mem_append.mp hx with hx | hx
          · rcases List.mem_append.mp hx with hx | hx
            · exact (flI (List.mem_of_mem_take hx)).1 _
            · rw [List.mem_singleton.mp hx]; exact fb.1 _
          · exact (flI (List.mem_of_mem_drop hx)).1 _
        · unfold memF
          rw [Bool.and_eq_false_iff]
          refine .inr ?_
          rw [List.all_eq_false]
          exact ⟨b, List.mem_append_left _ (List.mem_append_right _ (List.mem_singleton.mpr rfl)), by rw [nb]; decide⟩
    walk_at "x"
    refine x_lcLT (a := rw_) [V.ref r1, .ref r2, .ref r3, .ref r4] (fun p k H' => Same H7 H' ∧ H' p = some (.lst [])) (fun R r => by walk_at "x"; exact r) (sq_of eW) (fun p hp => ⟨same_upd hp, upd_same⟩) (fun p i H' hp hi hP => sq_of (hP.1 _ _ eW)) (fun x => rfl) ?_ ?_
    · rintro p i x H' hp hx ⟨s', e'⟩
      obtain ⟨ad, xs, rfl, hbad⟩ := bads x (List.mem_of_getElem? hx) H' s'
      walk_at "x"
      refine ⟨ad, .int (m : Int), xs, rfl, .int _, .inr ⟨m, rfl, m2, m9, hbad⟩, fun H3 s3 => ?_⟩
      walk_at "x"
      walk_at "f"
      exact ⟨s'.trans s3, s3 _ _ e'⟩
    rintro p H8 hp ⟨s8, e8⟩
    walk_at "x"
    refine x_len (sq_of e8) ?_
    walk_at "x"
    walk_at "f"
    have hD8 := hD7.same s8
    have k8 := k7.trans (Same.keep s8)
    walk_at "x"
    refine ⟨by show 1 ≤ sizeLine; decide, fun z hz => ?_⟩
    have s9 := same_upd (o := .lst [V.int 0]) hz
    generalize upd H8 z (.lst [V.int 0]) = H9 at s9
    walk_at "x"
    refine ⟨by show 5 ≤ sizeLine; decide, fun u hu => ?_⟩
    have s10 := same_upd (o := .lst [V.int 0, .int 1, .int (10 ^ Int.toNat 9 + 1), .bl true, .non]) hu
    have eu : (upd H9 u (.lst [V.int 0, .int 1, .int (10 ^ Int.toNat 9 + 1), .bl true, .non])) u = _ := upd_same
    have hud : u ≠ d := (hD8.same s9).new hu
    generalize upd H9 u (.lst [V.int 0, .int 1, .int (10 ^ Int.toNat 9 + 1), .bl true, .non]) = H10 at s10 eu
    have hD10 := hD8.same (s9.trans s10)
    walk_at "x"
    refine ⟨d, n, rfl, hD10, ?_⟩
    rintro _ H11 ⟨y, rfl, y0, y1⟩ hD11 k11
    walk_at "x"
    obtain ⟨b2, hv, hm2⟩ := at_lt (xs := [V.int 0, .int 1, .int (10 ^ Int.toNat 9 + 1), .bl true, .non]) (i := y % 5) (Int.emod_nonneg _ (by decide)) (Int.emod_lt_of_pos y (show (0 : Int) < 5 by decide))
    refine x_ixL (sq_of (k11 _ _ eu hud)) hv ?_
    have hb2 : Odd H11 b2 ∧ (isB b2 1000000001 && !isB b2 2) = false := by
      simp only [List.mem_cons, List.not_mem_nil, or_false] at hm2
      have e9 : (10 ^ Int.toNat 9 + 1 : Int) = 1000000001 := by decide
      rw [e9] at hm2
      rcases hm2 with rfl | rfl | rfl | rfl | rfl
      · exact ⟨.int _, by decide⟩
      · exact ⟨.int _, by decide⟩
      · exact ⟨.int _, by decide⟩
      · exact ⟨.bl _, rfl⟩
      · exact ⟨.non, rfl⟩
    walk_at "x"
    refine ⟨z, b2, [], rfl, hb2.1, .inl hb2.2, fun H12 s12 => ?_⟩
    walk_at "x"
    exact q _ _ rfl (hD11.same s12) (((k8.trans (Same.keep (s9.trans s10))).trans k11).trans (Same.keep s12))


end
end Br
namespace Br
open PySem PySem.Spec PyProof.Rows L2
local macro_rules | `(tactic| walk_at "x1") => `(tactic| (with_reducible first
  | refine Br.x_seq ?_ | refine Br.x_set ?_ | refine Br.x_asg ?_ | refine Br.x_next ?_ | refine Br.x_ret ?_ | refine Br.x_retN ?_ | refine Br.x_drop ?_ | refine Br.x_if ?_ | refine Br.x_brk ?_ | refine Br.x_cont ?_
  | refine Br.x_c ?_ | refine Br.x_op ?_ | refine Br.x_un ?_ | refine Br.x_I0 ?_ | refine Br.x_U ?_ | refine Br.x_EqI ?_ | refine Br.x_NeI ?_ | refine Br.x_EqB ?_ | refine Br.x_iN ?_ | refine Br.x_int1 ?_ | refine Br.x_min2 ?_ | refine Br.x_max2 ?_ | refine Br.x_nN ?_ | refine Br.x_ifE ?_
  | refine Br.x_test (b := ()) ?_ | refine Br.x_tB ?_ | refine Br.x_bl ?_ | refine Br.x_and ?_ | refine Br.x_or ?_ | refine Br.x_not ?_ | refine Br.x_andV ?_ | refine Br.x_orV ?_ | refine Br.x_notV ?_ | refine Br.x_blP ?_
  | refine Br.x_nil ?_ | refine Br.x_cons ?_ | refine Br.x_call ?_ | refine Br.x_CB ?_ | refine Br.x_BM ?_ | refine Br.x_tup ?_ | refine Br.x_lst ?_ | refine Br.x_chain ?_ | refine Br.x_par ?_ | refine Br.x_gSub ?_ | refine Br.x_gName ?_ | refine Br.x_fld ?_ | refine Br.x_fldS ?_ | refine Br.x_match ?_ | refine Br.x_else ?_ | refine Br.x_noCase ?_))
local macro_rules | `(tactic| walk_at "xv") => `(tactic| ((with_reducible refine' Br.x_var ?hvar ?_); (case hvar => rfl)))
local macro_rules | `(tactic| walk_at "xd") => `(tactic| (dsimp only [List.set_cons_zero, List.set_cons_succ, List.cons_append, List.nil_append, List.append_nil]))
local macro_rules | `(tactic| walk_at "xi") => `(tactic| ((with_reducible refine Br.x_I ?hside ?_); (case hside => first | exact Br.mul_r (by decide) (by decide) | exact Br.mul_l (by decide) (by decide) | exact Br.mul_l (by omega) (by omega) | exact Br.mul_r (by omega) (by omega) | (show (0 : Int) < _; first | decide | omega) | exact ⟨by decide, by decide⟩ | exact ⟨by omega, by omega⟩ | exact ⟨by decide, by decide, by decide⟩)))
local macro_rules | `(tactic| walk_at "x") => `(tactic| (repeat (first | walk_at "x1" | walk_at "xv" | walk_at "xi" | walk_at "xd")))
local macro_rules | `(tactic| walk_at "start") => `(tactic| (simp only [L2.start, List.map_cons, List.map_nil, List.length_cons, List.length_nil, Nat.reduceAdd, Nat.reduceSub, List.replicate, List.cons_append, List.nil_append, List.append_nil]))
local macro_rules | `(tactic| walk_at "isi") => `(tactic| first
  | refine Br.x_isi (b := true) (.base (.int _)) (by decide +kernel) ?_ | refine Br.x_isi (b := false) (.base (.int _)) (by decide +kernel) ?_
  | refine Br.x_isi (b := true) (.base (.bl _)) (by decide +kernel) ?_ | refine Br.x_isi (b := false) (.base (.bl _)) (by decide +kernel) ?_
  | refine Br.x_isi (b := false) (.base .non) (by decide +kernel) ?_
  | refine Br.x_isi (b := true) (.base (.str _)) (by decide +kernel) ?_ | refine Br.x_isi (b := false) (.base (.str _)) (by decide +kernel) ?_
  | refine Br.x_isi (b := true) (.base (.tup (by assumption))) (by decide +kernel) ?_ | refine Br.x_isi (b := false) (.base (.tup (by assumption))) (by decide +kernel) ?_
  | refine Br.x_isi (b := true) (.base (.lst (by assumption))) (by decide +kernel) ?_ | refine Br.x_isi (b := false) (.base (.lst (by assumption))) (by decide +kernel) ?_)
local macro_rules | `(tactic| walk_at "f") => `(tactic| (refine L2.iteF ?_; walk_at "x"))
local macro_rules | `(tactic| walk_at "t") => `(tactic| (refine L2.iteT ?_; walk_at "x"))
local macro_rules | `(tactic| walk_at "is") => `(tactic| (walk_at "isi"; walk_at "x"))
local macro_rules | `(tactic| walk_at "xb") => `(tactic| (simp only [Br.bindS, List.set_cons_zero, List.set_cons_succ]; walk_at "x"))

section
variable {P : Program} {w : World} {K : PySem.W.Frag} {mg : Str → Option Value} {base : Heap}

open Br Br.F
theorem PrAt.keepA {K : PySem.W.Frag} {C : Addr} {H H' : Hp} {d n p L : Addr} {as : List Addr} {ss : List Stp} {m c i : Nat} (h : PrAt K C H p L as ss m c i) (hL : L ≠ d) (hD : Dr H d n) (k : Keep d H H') : PrAt K C H' p L as ss m c i := by
  obtain ⟨dx, h1, h2⟩ := h.ob
  refine ⟨⟨dx, ?_, h2⟩, k _ _ h.lst hL, h.st.tups (keep_tupsA k hD)⟩
  obtain ⟨_, _, h3, _⟩ := hD
  exact k _ _ h1 (ne_of h1 h3 (by intro z; cases z))
theorem new_progA {C : Addr} {H1 : Hp} {L0 : Addr} {as : List Addr} {ss : List Stp} {m c i : Nat} {R : Addr → Hp → Prop} {E : XK} (hC : PC K C) (hl : H1 L0 = some (.lst (as.map V.ref))) (hst : StpsAt H1 as ss) (ok : PrOk ss m c i)
    (q : ∀ p L' H', H1 L' = none → Same H1 H' → PrAt K C H' p L' as ss m c i → R p H') : ∀ x dx, H1 x = none → H1 dx = none → dx ≠ x → sp_Program___init K [.ref x, .int (m : Int), .int (c : Int), .int (i : Int), .ref L0] (upd (upd H1 dx (.own x)) x (.ins C dx [])) (fun v H2 => v = .non ∧ R x H2) E :=
  new_prog (Q := fun v H => match v with | .ref a => R a H | _ => False) hC hl hst ok q

theorem drHas1 {H : Hp} {d n : Addr} (h : Dr H d n) : ∃ ys, H d = some (.lst ys) := by
  obtain ⟨_, _, e, _⟩ := h
  exact ⟨_, e⟩
theorem drHas2 {H : Hp} {d n : Addr} (h : Dr H d n) : ∃ ys, H n = some (.lst ys) := by
  obtain ⟨_, _, _, e, _⟩ := h
  exact ⟨_, e⟩
/-- the set with one more -/
def AV1 (AV : Addr → Prop) (l : Addr) : Addr → Prop := fun b => AV b ∨ b = l
/-- what the law has between its turns -/
structure B1 (K : PySem.W.Frag) (CV CL : Addr) (AV : Addr → Prop) (H : Hp) (d n v M D Mo : Addr) (m : Nat) (mem : List Int) (ls : Lns) : Prop where
  dr : Dr H d n
  va : VaAt K CV CL AV H v M D m ls.length mem ls
  tk : ls.map (fun x => x.1) = List.range ls.length
  mo : H Mo = some (.lst (mem.map V.int))
  nmo : ¬ AV Mo
  avd : AV d
  nn : ¬ AV n
  dM : d ≠ M
  al : ∀ b, AV b → ∃ ys, H b = some (.lst ys)
section
variable {K : PySem.W.Frag} {CV CL : Addr} {AV : Addr → Prop} {H H' : Hp} {d n v M D Mo p l a : Addr} {m : Nat} {mem : List Int} {ls : Lns} {x : Ln}
theorem B1.wr (h : B1 K CV CL AV H d n v M D Mo m mem ls) (hp : AV p) (hpM : p ≠ M) (k : Keep p H H') (hD : Dr H' d n) (hl : ∃ ys, H' p = some (.lst ys)) : B1 K CV CL AV H' d n v M D Mo m mem ls := by
  obtain ⟨yp, ep⟩ := h.al p hp
  refine ⟨hD, h.va.keepAt k hp hpM ep, h.tk, k _ _ h.mo (fun z => h.nmo (z ▸ hp)), h.nmo, h.avd, h.nn, h.dM, fun b hb => ?_⟩
  by_cases e : b = p
  · rw [e]; exact hl
  · obtain ⟨ys, q⟩ := h.al b hb
    exact ⟨ys, k _ _ q e⟩
theorem B1.put (h : B1 K CV CL AV H d n v M D Mo m mem ls) (hD : Dr H' d n) (k : Keep d H H') : B1 K CV CL AV H' d n v M D Mo m mem ls := h.wr h.avd h.dM k hD (drHas1 hD)
theorem B1.same (h : B1 K CV CL AV H d n v M D Mo m mem ls) (s : Same H H') : B1 K CV CL AV H' d n v M D Mo m mem ls := h.put (h.dr.same s) (Same.keep s)
theorem B1.loan {ys : List V} (h : B1 K CV CL AV H d n v M D Mo m mem ls) (hD : Dr H' d n) (k : Keep d H H') (fl : H l = none) (hl : H' l = some (.lst ys)) : B1 K CV CL (AV1 AV l) H' d n v M D Mo m mem ls := by
  obtain ⟨yd, ed⟩ := drHas1 h.dr
  obtain ⟨yn, en⟩ := drHas2 h.dr
  refine ⟨hD, (h.va.grow (AW := AV1 AV l) (fun b hb => hb.elim .inl (fun e => .inr (by rw [e]; exact fl))) (.inl h.va.av)).keepAt k (.inl h.avd) h.dM ed, h.tk, k _ _ h.mo (fun z => h.nmo (z ▸ h.avd)), fun z => z.elim h.nmo fun e => ?_, .inl h.avd, fun z => z.elim h.nn fun e => ?_, h.dM, fun b hb => ?_⟩
  · have := h.mo; rw [e, fl] at this; cases this
  · rw [e, fl] at en; cases en
  · rcases hb with hb | rfl
    · by_cases e : b = d
      · rw [e]; exact drHas1 hD
      · obtain ⟨ys, q⟩ := h.al b hb
        exact ⟨ys, k _ _ q e⟩
    · exact ⟨_, hl⟩
theorem B1.shrink (h : B1 K CV CL (AV1 AV l) H d n v M D Mo m mem ls) (hd : AV d) (hM : AV M) : B1 K CV CL AV H d n v M D Mo m mem ls :=
  ⟨h.dr, h.va.grow (fun b hb => .inl (.inl hb)) hM, h.tk, h.mo, fun z => h.nmo (.inl z), hd, fun z => h.nn (.inl z), h.dM, fun b hb => h.al b (.inl hb)⟩
theorem B1.lent (h : B1 K CV CL AV H d n v M D Mo m mem ls) (hV : VaAt K CV CL AV H' v M D m (ls.length + 1) mem (ls ++ [(ls.length, a, x)])) (k : KeepS (fun b => b = v ∨ b = D) H H') : B1 K CV CL AV H' d n v M D Mo m mem (ls ++ [(ls.length, a, x)]) := by
  obtain ⟨dx, ev⟩ := h.va.ob
  have eD := h.va.dd
  have kl : ∀ b ys, H b = some (.lst ys) → H' b = some (.lst ys) := fun b ys e => k _ _ e fun z => by
    rcases z with z | z
    · rw [z, ev] at e; cases e
    · rw [z, eD] at e; cases e
  refine ⟨?_, by rw [List.length_append]; exact hV, ?_, kl _ _ h.mo, h.nmo, h.avd, h.nn, h.dM, fun b hb => ?_⟩
  · obtain ⟨xs, kk, e1, e2, rg⟩ := h.dr
    exact ⟨xs, kk, kl _ _ e1, kl _ _ e2, rg⟩
  · rw [List.map_append, h.tk, List.length_append]
    show List.range ls.length ++ [ls.length] = List.range (ls.length + 1)
    rw [List.range_succ]
  · obtain ⟨ys, q⟩ := h.al b hb
    exact ⟨ys, kl _ _ q⟩
theorem B1.adv {C dx : Addr} {fs : List (Str × V)} (h : B1 K CV CL AV H d n v M D Mo m mem ls) (hV : VaAt K CV CL AV H' v M D m ls.length mem ls) (ha : H a = some (.ins C dx fs)) (k : KeepS (fun b => b = M ∨ b = a) H H') : B1 K CV CL AV H' d n v M D Mo m mem ls := by
  have kl : ∀ b ys, H b = some (.lst ys) → b ≠ M → H' b = some (.lst ys) := fun b ys e hb => k _ _ e fun z => by
    rcases z with z | z
    · exact hb z
    · rw [z, ha] at e; cases e
  refine ⟨?_, hV, h.tk, kl _ _ h.mo (fun z => h.nmo (z ▸ h.va.av)), h.nmo, h.avd, h.nn, h.dM, fun b hb => ?_⟩
  · obtain ⟨xs, kk, e1, e2, rg⟩ := h.dr
    exact ⟨xs, kk, kl _ _ e1 h.dM, kl _ _ e2 (fun z => h.nn (z ▸ h.va.av)), rg⟩
  · by_cases e : b = M
    · rw [e]; exact ⟨_, hV.mm⟩
    · obtain ⟨ys, q⟩ := h.al b hb
      exact ⟨ys, kl _ _ q e⟩
theorem putL_id (ha : (ls.map fun x => x.1).Pairwise (· < ·)) {y : Nat × Addr × Ln} (hy : y ∈ ls) : putL ls y.1 y.2.2 = ls := by
  unfold putL
  refine (List.map_congr_left (g := id) fun z hz => ?_).trans (List.map_id ls)
  split
  · rename_i e
    have h1 := find_uniq ha hy
    have h2 := find_uniq ha hz
    rw [e, h1] at h2
    rw [Option.some.inj h2]; rfl
  · rfl
theorem adv0 {n : Nat} (h : LnOk m n x) (hn : n = mem.length) : advN x 0 = 0 ∧ advM m mem x 0 = mem ∧ advL x 0 = x := by
  have e : advN x 0 = 0 := by unfold advN; exact Nat.zero_min _
  refine ⟨e, ?_, ?_⟩
  · unfold advM
    rw [e]
    show putM mem x.pl (getM mem x.pl) = mem
    exact putM_getM h.nd fun p hp => by rw [← hn]; exact h.lt p hp
  · unfold advL
    rw [e]; rfl
theorem bf_new (hlt : ∀ y, y ∈ ls → y.1 < ls.length) : blockedF (ls ++ [(ls.length, a, x)]) (ls.length, a, x) = false := by
  unfold blockedF
  rw [List.any_eq_false]
  intro y hy
  have : ¬ ls.length < y.1 := by
    rcases List.mem_append.mp hy with hy | hy
    · have := hlt y hy; omega
    · rw [List.mem_singleton.mp hy]; exact Nat.lt_irrefl _
  rw [decide_eq_false this, Bool.false_and]
  decide
theorem tks1 (h : ls.map (fun x => x.1) = List.range ls.length) : tksOf ls = (List.range ls.length).map fun (k : Nat) => (k : Int) := by
  unfold tksOf
  rw [← h, List.map_map]; rfl
end
/-- what is due: a ticket, or a refusal -/
def Due (H : Hp) (m m' size c i : Nat) (pk : Int) (o1 o2 : Option (List V)) (nt : Nat) (due : V) : Prop :=
  (pk = 2 ∧ m' = m ∧ due = .int (nt : Int) ∧ PlsOk o1 c size ∧ belF o2 (i : Int) (m : Int) = true) ∨
  (pk ≠ 2 ∧ m' = m ∧ ¬ (PlsOk o1 c size ∧ belF o2 (i : Int) (m : Int) = true) ∧ ∃ t, due = .ref t ∧ H t = some (.tup [.str "refused", .str "memory"])) ∨
  (pk ≠ 2 ∧ m' ≠ m ∧ ∃ t, due = .ref t ∧ H t = some (.tup [.str "refused", .str "step"]))
theorem Due.keep {H H' : Hp} {m m' size c i nt : Nat} {pk : Int} {o1 o2 : Option (List V)} {due : V} (h : Due H m m' size c i pk o1 o2 nt due) (k : ∀ b xs, H b = some (.tup xs) → H' b = some (.tup xs)) : Due H' m m' size c i pk o1 o2 nt due := by
  rcases h with h | ⟨h1, h2, h3, t, e, ht⟩ | ⟨h1, h2, t, e, ht⟩
  · exact .inl h
  · exact .inr (.inl ⟨h1, h2, h3, t, e, k _ _ ht⟩)
  · exact .inr (.inr ⟨h1, h2, t, e, k _ _ ht⟩)

end
end Br
namespace Br
open PySem PySem.Spec PyProof.Rows L2
local macro_rules | `(tactic| walk_at "x1") => `(tactic| (with_reducible first
  | refine Br.x_seq ?_ | refine Br.x_set ?_ | refine Br.x_asg ?_ | refine Br.x_next ?_ | refine Br.x_ret ?_ | refine Br.x_retN ?_ | refine Br.x_drop ?_ | refine Br.x_if ?_ | refine Br.x_brk ?_ | refine Br.x_cont ?_
  | refine Br.x_c ?_ | refine Br.x_op ?_ | refine Br.x_un ?_ | refine Br.x_I0 ?_ | refine Br.x_U ?_ | refine Br.x_EqI ?_ | refine Br.x_NeI ?_ | refine Br.x_EqB ?_ | refine Br.x_iN ?_ | refine Br.x_int1 ?_ | refine Br.x_min2 ?_ | refine Br.x_max2 ?_ | refine Br.x_nN ?_ | refine Br.x_ifE ?_
  | refine Br.x_test (b := ()) ?_ | refine Br.x_tB ?_ | refine Br.x_bl ?_ | refine Br.x_and ?_ | refine Br.x_or ?_ | refine Br.x_not ?_ | refine Br.x_andV ?_ | refine Br.x_orV ?_ | refine Br.x_notV ?_ | refine Br.x_blP ?_
  | refine Br.x_nil ?_ | refine Br.x_cons ?_ | refine Br.x_call ?_ | refine Br.x_CB ?_ | refine Br.x_BM ?_ | refine Br.x_tup ?_ | refine Br.x_lst ?_ | refine Br.x_chain ?_ | refine Br.x_par ?_ | refine Br.x_gSub ?_ | refine Br.x_gName ?_ | refine Br.x_fld ?_ | refine Br.x_fldS ?_ | refine Br.x_match ?_ | refine Br.x_else ?_ | refine Br.x_noCase ?_))
local macro_rules | `(tactic| walk_at "xv") => `(tactic| ((with_reducible refine' Br.x_var ?hvar ?_); (case hvar => rfl)))
local macro_rules | `(tactic| walk_at "xd") => `(tactic| (dsimp only [List.set_cons_zero, List.set_cons_succ, List.cons_append, List.nil_append, List.append_nil]))
local macro_rules | `(tactic| walk_at "xi") => `(tactic| ((with_reducible refine Br.x_I ?hside ?_); (case hside => first | exact Br.mul_r (by decide) (by decide) | exact Br.mul_l (by decide) (by decide) | exact Br.mul_l (by omega) (by omega) | exact Br.mul_r (by omega) (by omega) | (show (0 : Int) < _; first | decide | omega) | exact ⟨by decide, by decide⟩ | exact ⟨by omega, by omega⟩ | exact ⟨by decide, by decide, by decide⟩)))
local macro_rules | `(tactic| walk_at "x") => `(tactic| (repeat (first | walk_at "x1" | walk_at "xv" | walk_at "xi" | walk_at "xd")))
local macro_rules | `(tactic| walk_at "start") => `(tactic| (simp only [L2.start, List.map_cons, List.map_nil, List.length_cons, List.length_nil, Nat.reduceAdd, Nat.reduceSub, List.replicate, List.cons_append, List.nil_append, List.append_nil]))
local macro_rules | `(tactic| walk_at "isi") => `(tactic| first
  | refine Br.x_isi (b := true) (.base (.int _)) (by decide +kernel) ?_ | refine Br.x_isi (b := false) (.base (.int _)) (by decide +kernel) ?_
  | refine Br.x_isi (b := true) (.base (.bl _)) (by decide +kernel) ?_ | refine Br.x_isi (b := false) (.base (.bl _)) (by decide +kernel) ?_
  | refine Br.x_isi (b := false) (.base .non) (by decide +kernel) ?_
  | refine Br.x_isi (b := true) (.base (.str _)) (by decide +kernel) ?_ | refine Br.x_isi (b := false) (.base (.str _)) (by decide +kernel) ?_
  | refine Br.x_isi (b := true) (.base (.tup (by assumption))) (by decide +kernel) ?_ | refine Br.x_isi (b := false) (.base (.tup (by assumption))) (by decide +kernel) ?_
  | refine Br.x_isi (b := true) (.base (.lst (by assumption))) (by decide +kernel) ?_ | refine Br.x_isi (b := false) (.base (.lst (by assumption))) (by decide +kernel) ?_)
local macro_rules | `(tactic| walk_at "f") => `(tactic| (refine L2.iteF ?_; walk_at "x"))
local macro_rules | `(tactic| walk_at "t") => `(tactic| (refine L2.iteT ?_; walk_at "x"))
local macro_rules | `(tactic| walk_at "is") => `(tactic| (walk_at "isi"; walk_at "x"))
local macro_rules | `(tactic| walk_at "xb") => `(tactic| (simp only [Br.bindS, List.set_cons_zero, List.set_cons_succ]; walk_at "x"))

section
variable {P : Program} {w : World} {K : PySem.W.Frag} {mg : Str → Option Value} {base : Heap}

open Br Br.F
theorem x_prop {C : Addr} {sp : Sp} {dvs : List V} {E : XK} {ta : TE} {σ : L2.St} {H : Hp} {Q : VK} (h : ta σ H fun x H1 => ∃ a dx fs, x = .ref a ∧ H1 a = some (.ins C dx fs) ∧ sp (.ref a :: dvs) H1 Q E) : tProp C sp dvs E ta σ H Q := h
theorem x_forPre1 {σ : L2.St} {H : Hp} {D : Ends} {ta : TE} {g : TG} {tb : TS} (h : ta σ H fun v H1 => tFor (iRng1 (tCons (tC v) tNil)) g tb D σ H1) : tFor (iRng1 (tCons ta tNil)) g tb D σ H := h
theorem no_lS {as : List Addr} {c i : Int} {S P G : Addr} (h : some (HO.lst (as.map V.ref)) = some (HO.lst [.int c, .int i, .ref S, .ref P, .ref G])) : False := by
  have h := HO.lst.inj (Option.some.inj h)
  cases as with
  | nil => cases h
  | cons a as => cases (List.cons.inj h).1
theorem Dr.nd {H : Hp} {d n : Addr} (h : Dr H d n) : n ≠ d := fun z => by
  obtain ⟨ns, k, e1, e2, _⟩ := h
  rw [z, e1] at e2
  have e2 := HO.lst.inj (Option.some.inj e2)
  cases ns with
  | nil => cases e2
  | cons a as => cases (List.cons.inj e2).1
theorem no_lC {pl : List Nat} {c i : Int} {S P G : Addr} (h : some (HO.lst [V.int c, .int i, .ref S, .ref P, .ref G]) = some (HO.lst (cInts pl))) : False := by
  rw [cInts_map] at h
  have h := HO.lst.inj (Option.some.inj h)
  match pl, h with
  | [], h => cases h
  | [_], h => cases (List.cons.inj h).2
  | _ :: _ :: [], h => cases (List.cons.inj (List.cons.inj h).2).2
  | _ :: _ :: z :: _, h => cases (List.cons.inj (List.cons.inj (List.cons.inj h).2).2).1
theorem no_lG {gv : List Int} {c i : Int} {S P G : Addr} (h : some (HO.lst [V.int c, .int i, .ref S, .ref P, .ref G]) = some (HO.lst (gv.map V.int))) : False := by
  have h := HO.lst.inj (Option.some.inj h)
  match gv, h with
  | [], h => cases h
  | [_], h => cases (List.cons.inj h).2
  | _ :: _ :: [], h => cases (List.cons.inj (List.cons.inj h).2).2
  | _ :: _ :: z :: _, h => cases (List.cons.inj (List.cons.inj (List.cons.inj h).2).2).1
theorem pls_mk {pl : List Nat} {c n : Nat} (h1 : pl.length = c) (h2 : pl.Nodup) (h3 : ∀ k, k ∈ pl → k < n) : PlsOk (some (cInts pl)) c n := by
  refine ⟨pl.map fun (k : Nat) => (k : Int), by rw [cInts_map], ⟨by rw [List.length_map, h1], fun z hz => by obtain ⟨p, hp, rfl⟩ := List.mem_map.mp hz; have := h3 p hp; omega⟩, ?_⟩
  unfold List.Nodup at h2 ⊢
  rw [List.pairwise_map]
  exact h2.imp fun h e => h (by omega)
theorem eqv_rs {K : PySem.W.Frag} {H : Hp} {n : Nat} {a b : Addr} {x y : Str} (h1 : H a = some (.tup [.str x, .str y])) (h2 : H b = some (.tup [.str x, .str y])) : Eqv K H (n + 2) (.ref a) (.ref b) :=
  Eqv.tup h1 h2 rfl (by show 2 ≤ 100000; decide) fun i u w e1 e2 => by
    match i, e1, e2 with
    | 0, e1, e2 => cases e1; cases e2; exact Eqv.str
    | 1, e1, e2 => cases e1; cases e2; exact Eqv.str
    | i + 2, e1, _ => simp at e1
theorem Ol.at {H : Hp} {a b : Addr} {o : Option (List V)} {xs : List V} (h : Ol H a o) (e : b = a) (hb : H b = Option.some (.lst xs)) : o = Option.some xs := by
  subst e
  rcases h with ⟨ys, rfl, g, _, _⟩ | ⟨rfl, ys, g⟩
  · rw [hb] at g; cases g; rfl
  · rw [hb] at g; cases g
theorem x_forPreL1 {K : PySem.W.Frag} {σ : L2.St} {H : Hp} {D : Ends} {ta : TE} {g : TG} {tb : TS} (h : ta σ H fun v H1 => tFor (iList K (tC v)) g tb D σ H1) : tFor (iList K ta) g tb D σ H := h

def sp_law (K : PySem.W.Frag) : Sp := fun vs H Q _ => ∃ (a : Addr) (ns : List Int), vs = [.ref a] ∧ SqL K H a (ns.map V.int) ∧ ns.length ≤ 63 ∧ ∀ H', Q (.bl true) H'
theorem ok_law (T : Txt K mg) : FnOk P w K mg base CX0 10 T.a_law T.fd_law ["script"] (sp_law K) := by
  refine T.F_law.ok sc_law (fun vs H Q E h => ?_) (fun cdv A outer s H vs Q E hr h => ?_)
  · obtain ⟨a, ns, rfl, _⟩ := h
    rfl
  · obtain ⟨sa, ns, rfl, hS, hl, q⟩ := h
    have hC : PC K T.C_Program := ⟨T.cl_Program, T.na_Program_modulus, T.na_Program_cells, T.na_Program_inputs, T.na_Program_steps⟩
    have hCV : VC K T.C_Vault := ⟨T.cl_Vault, T.na_Vault__memory, T.na_Vault__modulus, T.na_Vault__loans, T.na_Vault__next_ticket⟩
    have hCL : LC K T.C_Loan := ⟨T.cl_Loan, T.na_Loan_steps, T.na_Loan_places, T.na_Loan_given, T.na_Loan_first, T.na_Loan_done⟩
    refine ⟨_, (pss_cons (ps_set (i := 1) sc_law.nd rfl (.inr rfl) (pe_lst (pa_cons (pe_call (ok_law_numbers T) (hr.mono (by decide)) (by rfl) T.g_law_numbers T.F_law_numbers.kp T.b_law_numbers .nil pass0 (pa_cons (pv 0) pa_nil)) (pa_cons pe_int pa_nil))))
      (pss_cons (ps_set (i := 2) sc_law.nd rfl (.inl rfl) (pe_call (ok_law_size T) (hr.mono (by decide)) (by rfl) T.g_law_size T.F_law_size.kp T.b_law_size .nil pass0 (pa_cons (pv 1) pa_nil)))
      (pss_cons (ps_set (i := 3) sc_law.nd rfl (.inr rfl) (pe_call (ok_law_modulus T) (hr.mono (by decide)) (by rfl) T.g_law_modulus T.F_law_modulus.kp T.b_law_modulus .nil pass0 (pa_cons (pv 1) pa_nil)))
      (pss_cons (ps_setLc (i := 4) (own := [("k", 15)]) (g := gName 15) (tt := tYes) rfl sc_law.nd rfl rfl (sw_true rfl rfl rfl (by decide +kernel)) (pi_range1 (by rfl) T.m_range (pa_cons (pv 2) pa_nil)) (blkOk_by (N := N_law) (sc := defScope s_law) (by decide +kernel)) (fun _ _ _ _ _ => (pg_name (i := 15) sc_law.nd rfl (Or.inl rfl))) (fun _ _ _ _ _ => pts_nil) (fun _ _ _ _ _ => (pe_call (ok_law_number T) (hr.mono (by decide)) (by rfl) T.g_law_number T.F_law_number.kp T.b_law_number .nil pass0 (pa_cons (pv 1) (pa_cons (pv 3) pa_nil)))))
      (pss_cons (ps_if (pt_not (pt_val (pe_call (ok_law_no_memories T) (hr.mono (by decide)) (by rfl) T.g_law_no_memories T.F_law_no_memories.kp T.b_law_no_memories .nil pass0 (pa_cons (pv 1) (pa_cons (pv 4) (pa_cons (pv 3) pa_nil))))))
      (pss_one (ps_ret pe_bl))
      pss_nil)
      (pss_cons (ps_set (i := 5) sc_law.nd rfl (.inl rfl) (pe_make T.mk_Vault (ok_Vault___init T) (hr.mono (by decide)) (by rfl) T.gc_Vault T.b_Vault___init .nil passL (pa_cons (pe_callTy (T := "list") (r := rListOf K) cr_list_of (by rfl) T.m_list (by decide +kernel) (pa_cons (pv 4) pa_nil)) (pa_cons (pv 3) pa_nil))))
      (pss_cons (ps_set (i := 6) sc_law.nd rfl (.inl rfl) pe_int)
      (pss_cons (ps_for PassesOwn.never rfl (pi_range1 (by rfl) T.m_range (pa_cons (pe_op op_mod (pe_call (ok_law_draw T) (hr.mono (by decide)) (by rfl) T.g_law_draw T.F_law_draw.kp T.b_law_draw .nil pass0 (pa_cons (pv 1) pa_nil)) pe_int) pa_nil)) (pg_name (i := 7) sc_law.nd rfl (Or.inl rfl))
      (pss_cons (ps_set (i := 8) sc_law.nd rfl (.inl rfl) (pe_call (ok_law_loan T) (hr.mono (by decide)) (by rfl) T.g_law_loan T.F_law_loan.kp T.b_law_loan .nil pass0 (pa_cons (pv 1) (pa_cons (pv 3) (pa_cons (pv 2) pa_nil)))))
      (pss_cons (ps_set (i := 9) sc_law.nd rfl (.inl rfl) (pv 6))
      (pss_cons (ps_set (i := 10) sc_law.nd rfl (.inl rfl) (pe_lst (pa_cons (pe_ix (r := rIxL K) ix_list (pv 8) pe_int (fun _ _ => rfl)) (pa_cons (pe_ix (r := rIxL K) ix_list (pv 8) pe_int (fun _ _ => rfl)) pa_nil))))
      (pss_cons (ps_set (i := 11) sc_law.nd rfl (.inl rfl) (pv 3))
      (pss_cons (ps_set (i := 12) sc_law.nd rfl (.inl rfl) (pe_op op_mod (pe_call (ok_law_draw T) (hr.mono (by decide)) (by rfl) T.g_law_draw T.F_law_draw.kp T.b_law_draw .nil pass0 (pa_cons (pv 1) pa_nil)) pe_int))
      (Evl.pss_cut (ps_if (PW.pt (pw_or (pt_cmpR op_eq (pv 12) pe_int (nomark _)) (pw_or1 (PW.pt (pw_and (pt_cmpR op_eq (pv 12) pe_int (nomark _)) (pw_and1 (pt_cmpR op_eq (pe_op op_mod (pe_call (ok_law_draw T) (hr.mono (by decide)) (by rfl) T.g_law_draw T.F_law_draw.kp T.b_law_draw .nil pass0 (pa_cons (pv 1) pa_nil)) pe_int) pe_int (nomark _))))))))
      (pss_cons (ps_set (i := 10) sc_law.nd rfl (.inl rfl) (pe_call (ok_law_spoilt T) (hr.mono (by decide)) (by rfl) T.g_law_spoilt T.F_law_spoilt.kp T.b_law_spoilt .nil pass0 (pa_cons (pv 1) (pa_cons (pv 8) (pa_cons (pv 3) (pa_cons (pv 2) pa_nil))))))
      (pss_one (ps_set (i := 9) sc_law.nd rfl (.inl rfl) (pe_tup (pa_cons pe_str (pa_cons pe_str pa_nil))))))
      pss_nil)
      (Evl.pss_cut (ps_if (pt_cmpR op_eq (pv 12) pe_int (nomark _))
      (pss_cons (ps_set (i := 11) sc_law.nd rfl (.inl rfl) (pe_op op_sub (pe_op op_add (pv 3) pe_int) (pe_op op_mul pe_int (pe_callTy (T := "int") (r := rInt1) cr_int1 (by rfl) T.m_int (by decide +kernel) (pa_cons (pe_cmpR op_eq (pv 3) (pe_op op_pow pe_int pe_int) (nomark _)) pa_nil)))))
      (pss_cons (ps_asg (pe_lst pa_nil) (pg_sub (pv 8) pe_int set_list))
      (pss_one (ps_set (i := 9) sc_law.nd rfl (.inl rfl) (pe_tup (pa_cons pe_str (pa_cons pe_str pa_nil)))))))
      pss_nil)
      (pss_cons (ps_set (i := 13) sc_law.nd rfl (.inl rfl) (pe_make T.mk_Program (ok_Program___init T) (hr.mono (by decide)) (by rfl) T.gc_Program T.b_Program___init .nil pass0 (pa_cons (pv 11) (pa_cons (pe_ix (r := rIxL K) ix_list (pv 8) pe_int (fun _ _ => rfl)) (pa_cons (pe_ix (r := rIxL K) ix_list (pv 8) pe_int (fun _ _ => rfl)) (pa_cons (pe_callTy (T := "list") (r := rListOf K) cr_list_of (by rfl) T.m_list (by decide +kernel) (pa_cons (pe_ix (r := rIxL K) ix_list (pv 8) pe_int (fun _ _ => rfl)) pa_nil)) pa_nil))))))
      (Evl.pss_cut (ps_if (pt_not (pt_val (pe_call (ok_law_equal T 4) hr (by rfl) T.g_law_equal T.F_law_equal.kp T.b_law_equal .nil pass0 (pa_cons (pe_call (ok_law_lent T) (hr.mono (by decide)) (by rfl) T.g_law_lent T.F_law_lent.kp T.b_law_lent .nil pass0 (pa_cons (pv 5) (pa_cons (pv 13) (pa_cons (pe_ix (r := rIxL K) ix_list (pv 10) pe_int (fun _ _ => rfl)) (pa_cons (pe_ix (r := rIxL K) ix_list (pv 10) pe_int (fun _ _ => rfl)) pa_nil))))) (pa_cons (pv 9) pa_nil)))))
      (pss_one (ps_ret pe_bl))
      pss_nil)
      (Evl.pss_cut (ps_if (PW.pt (pw_and (pt_cmpR op_eq (pv 12) pe_int (nomark _)) (pw_and1 (pt_not (pt_val (pe_call (ok_law_equal T 4) hr (by rfl) T.g_law_equal T.F_law_equal.kp T.b_law_equal .nil pass0 (pa_cons (pe_meth (pv 5) T.cl_Vault T.me_Vault_advance (ok_Vault_advance T) (hr.mono (by decide)) T.b_Vault_advance .nil passL (pa_cons (pv 6) (pa_cons pe_int pa_nil))) (pa_cons pe_int pa_nil))))))))
      (pss_one (ps_ret pe_bl))
      pss_nil)
      (pss_cons (ps_set (i := 6) sc_law.nd rfl (.inl rfl) (pe_op op_add (pv 6) (pe_callTy (T := "int") (r := rInt1) cr_int1 (by rfl) T.m_int (by decide +kernel) (pa_cons (pe_cmpR op_eq (pv 12) pe_int (nomark _)) pa_nil))))
      (pss_one (ps_for PassesOwn.never rfl (pi_list (pe_lst (pa_cons (pv 6) (pa_cons (pe_un un_neg pe_int) (pa_cons pe_bl (pa_cons pe_non (pa_cons pe_str pa_nil))))))) (pg_name (i := 14) sc_law.nd rfl (Or.inl rfl))
      (pss_one (ps_if (pt_val (pe_call (ok_law_is_ticket T) (hr.mono (by decide)) (by rfl) T.g_law_is_ticket T.F_law_is_ticket.kp T.b_law_is_ticket .nil pass0 (pa_cons (pv 5) (pa_cons (pv 14) (pa_cons (pe_op op_mod (pe_call (ok_law_draw T) (hr.mono (by decide)) (by rfl) T.g_law_draw T.F_law_draw.kp T.b_law_draw .nil pass0 (pa_cons (pv 1) pa_nil)) pe_int) pa_nil)))))
      (pss_one (ps_ret pe_bl))
      pss_nil))))))))))))))))
      (pss_one (ps_ret (pe_and (pe_call (ok_law_equal T 4) hr (by rfl) T.g_law_equal T.F_law_equal.kp T.b_law_equal .nil pass0 (pa_cons (pe_meth0 (pv 5) T.cl_Vault T.me_Vault_open_loans (ok_Vault_open_loans T) (hr.mono (by decide)) T.b_Vault_open_loans .nil pass0) (pa_cons (pe_lc (own := [("k", 15)]) (g := gName 15) (tt := tYes) rfl sc_law.nd (pi_range1 (by rfl) T.m_range (pa_cons (pv 6) pa_nil)) (blkOk_by (N := N_law) (sc := defScope s_law) (by decide +kernel)) (fun _ _ _ _ _ => (pg_name (i := 15) sc_law.nd rfl (Or.inl rfl))) (fun _ _ _ _ _ => pts_nil) (fun _ _ _ _ _ => (pv 15))) pa_nil))) (pe_one (pe_call (ok_law_equal T 4) hr (by rfl) T.g_law_equal T.F_law_equal.kp T.b_law_equal .nil pass0 (pa_cons (pe_prop (pv 5) T.cl_Vault T.pr_Vault_memory (ok_Vault_memory T) (hr.mono (by decide)) T.b_Vault_memory .nil pass0 rfl) (pa_cons (pv 4) pa_nil))))))))))))))), ?_⟩
    walk_at "start"
    walk_at "x"
    refine ⟨sa, ns, rfl, hS, hl, fun n ms H1 hn s1 e1 r1 l1 => ?_⟩
    walk_at "x"
    refine ⟨by show 2 ≤ sizeLine; decide, fun d hd => ?_⟩
    have hD := Dr.mk e1 r1 l1 hd
    generalize upd H1 d (.lst [.ref n, .int 0]) = H2 at hD
    clear hn s1 e1 r1 l1 hd hS hl
    walk_at "x"
    refine ⟨d, n, rfl, hD, ?_⟩
    rintro _ H3 ⟨size, rfl, n1, n2⟩ hD3 _
    walk_at "x"
    refine ⟨d, n, rfl, hD3, ?_⟩
    rintro _ H4 ⟨m, rfl, m2, m9⟩ hD4 _
    clear hD hD3
    walk_at "x"
    refine x_lcR1 (size : Int) (fun o k H' => Dr H' d n ∧ Keep d H4 H' ∧ o ≠ d ∧ o ≠ n ∧ ∃ gv : List Int, H' o = some (.lst (gv.map V.int)) ∧ gv.length = k ∧ Rg 0 m gv) (fun R r => by walk_at "x"; exact r) (by omega) (by omega) (fun o ho => ⟨hD4.upd0 ho, Same.keep (same_upd ho), hD4.new ho, hD4.newN ho, [], upd_same, rfl, .nil⟩) (fun x => rfl) ?_ ?_
    · rintro o k H5 ho hk ⟨hD5, k5, od, on, gv, hOg, hgl, hgr⟩
      walk_at "x"
      refine ⟨d, n, (m : Int), rfl, by omega, hD5, ?_⟩
      rintro _ H6 ⟨w, rfl, w0, w1⟩ hD6 k6
      refine ⟨_, k6 _ _ hOg od, lt_line (by rw [List.length_map]; omega), hD6.upd od on, kput (k5.trans k6) ho, od, on, gv ++ [w], by rw [upd_same, List.map_append]; rfl, by rw [List.length_append, hgl]; rfl, hgr.snoc w0 w1⟩
    rintro Mo H5 _ ⟨hD5, _, Mod, Mon, mem, hMo, hml, hmr⟩
    have hml : mem.length = size := by omega
    have hmm : Mem m mem.length mem := ⟨rfl, hmr⟩
    clear hD4
    subst hml
    walk_at "x"
    refine ⟨d, n, Mo, m, mem, rfl, hMo, Mod, n1, n2, m2, m9, hD5, ?_⟩
    rintro _ H5b rfl hD5b k5b
    have hMo := k5b _ _ hMo Mod
    clear k5b hD5
    walk_at "x"
    walk_at "f"
    walk_at "x"
    refine x_make1 ?_
    walk_at "x"
    refine x_listL (sq_of hMo) fun Hd hHd => ?_
    have u6 := same_upd (o := .lst (mem.map V.int)) hHd
    have e6 : (upd H5b Hd (.lst (mem.map V.int))) Hd = some (.lst (mem.map V.int)) := upd_same
    generalize upd H5b Hd (.lst (mem.map V.int)) = H6 at u6 e6
    have hD6 := hD5b.same u6
    have hMo6 := u6 _ _ hMo
    clear hMo hD5b u6 hHd
    walk_at "x"
    intro v dx hv hdx hne
    have s7 : Same H6 (upd (upd H6 dx (.own v)) v (.ins T.C_Vault dx [])) := (same_upd hdx).trans (same_upd (by rw [upd_ne hne.symm]; exact hv))
    have ev : (upd (upd H6 dx (.own v)) v (.ins T.C_Vault dx [])) v = some (.ins T.C_Vault dx []) := upd_same
    generalize upd (upd H6 dx (.own v)) v (.ins T.C_Vault dx []) = HX at s7 ev
    have hF : memF (mem.map V.int) (m : Int) = true := by
      rw [memF_yes (by rw [List.length_map]; omega)]
      have e2 := hmm.odd
      rw [Bool.and_eq_true] at e2
      exact e2.2
    refine ⟨v, T.C_Vault, dx, Hd, _, mem.map V.int, rfl, ev, hCV, .int _, .inr ⟨m, rfl, m2, m9, .inr ⟨s7 _ _ e6, by rw [List.length_map]; omega, fun x hx => (flI hx).1 _, fun h0 => (by rw [hF] at h0; cases h0), fun mem' em _ _ _ M D H7 hM hDD keep7 hV7 => ⟨rfl, ?_⟩⟩⟩⟩
    have em := (List.map_inj_right (fun a b (h : V.int a = V.int b) => V.int.inj h)).mp em
    subst em
    have hV7 := hV7 T.C_Loan (fun b => b = M ∨ b = d) (.inl rfl)
    have s67 : Same H6 H7 := fun b o e => keep7 b o (s7 _ _ e) (fun z => by rw [z, hv] at e; cases e)
    have fr : ∀ b o, H6 b = some o → b ≠ M := fun b o e => fun z => (by rw [z] at e; rw [s7 _ _ e] at hM; cases hM)
    have hB7 : B1 K T.C_Vault T.C_Loan (fun b => b = M ∨ b = d) H7 d n v M D Mo m mem [] := by
      obtain ⟨_, hdl⟩ := drHas1 hD6
      obtain ⟨_, hnl⟩ := drHas2 hD6
      refine ⟨hD6.same s67, hV7, rfl, s67 _ _ hMo6, fun z => z.elim (fr _ _ hMo6) Mod, .inr rfl, fun z => z.elim (fr _ _ hnl) (Dr.nd hD6), fr _ _ hdl, fun b hb => ?_⟩
      rcases hb with rfl | rfl
      · exact ⟨_, hV7.mm⟩
      · exact drHas1 (hD6.same s67)
    have dM := hB7.dM
    have MoM : Mo ≠ M := fr _ _ hMo6
    clear s7 ev keep7 hM hDD hv hdx hne hD6 fr hV7 s67 hMo6 e6 hF hmr
    walk_at "x"
    refine x_forPre1 ?_
    walk_at "x"
    refine ⟨d, n, rfl, hB7.dr, ?_⟩
    rintro _ H8 ⟨w8, rfl, w80, w81⟩ hD8 k8
    have hB8 := hB7.put hD8 k8
    clear hB7 hD8 k8
    walk_at "x"
    have hr0 : 0 ≤ w8 % 9 ∧ w8 % 9 < 9 := ⟨Int.emod_nonneg _ (by decide), Int.emod_lt_of_pos w8 (by decide)⟩
    refine x_forR1 (w8 % 9) (fun turn σ' H' => ∃ (ls : Lns) (v7 v8 v9 v10 v11 v12 v13 v14 v15 : Option V), σ' = [some (V.ref sa), some (.ref d), some (.int (mem.length : Int)), some (.int (m : Int)), some (.ref Mo), some (.ref v), some (.int (ls.length : Int)), v7, v8, v9, v10, v11, v12, v13, v14, v15] ∧ ls.length ≤ turn ∧ B1 K T.C_Vault T.C_Loan (fun b => b = M ∨ b = d) H' d n v M D Mo m mem ls) (fun R r => r) (by omega) (by omega) ⟨[], _, _, _, _, _, _, _, _, _, rfl, Nat.le_refl _, hB8⟩ ?_ ?_
    · rintro turn σ' H' ht ⟨ls, v7, v8, v9, v10, v11, v12, v13, v14, v15, rfl, hls, hB⟩
      clear hB8
      walk_at "x"
      refine ⟨d, n, m, mem.length, rfl, m2, m9, n1, n2, hB.dr, ?_⟩
      rintro _ H9 ⟨l, S, P, G, as, ss, c, i, pl, gv, rfl, L⟩ hD9 k9
      have hB9 := hB.loan hD9 k9 L.fl L.hl
      have nd : ∀ b, H' b = none → b ≠ d := fun b hb z => hB.dr.ne (by rw [← z]; exact hb)
      have ld := nd _ L.fl
      have Sd := nd _ L.fs
      have Pd := nd _ L.fp
      have Gd := nd _ L.fg
      have Ll := L.hl
      have LS := L.hs
      have LP := L.hp
      have LG := L.hg
      have Lst := L.st
      have ok := L.ok
      have hpl := L.len
      have hnd := L.nd
      have hlt := L.lt
      have hgv := L.hgv
      have cs := L.cs
      have is_ := L.is_
      have c1 := ok.c1
      have lM : l ≠ M := fun z => by have := hB.va.mm; rw [← z, L.fl] at this; cases this
      have ln_ : l ≠ n := fun z => by obtain ⟨_, e⟩ := drHas2 hB.dr; rw [← z, L.fl] at e; cases e
      have hDr9 := hB9.dr
      clear L hB hD9 k9 nd
      have lS : l ≠ S := fun z => by rw [z, LS] at Ll; exact no_lS Ll
      walk_at "x"
      refine x_ixL (sq_of Ll) (show _ = some (V.ref P) from rfl) ?_
      walk_at "x"
      refine x_ixL (sq_of Ll) (show _ = some (V.ref G) from rfl) ?_
      walk_at "x"
      refine ⟨by show 2 ≤ sizeLine; decide, fun r hr => ?_⟩
      have s10 := same_upd (o := .lst [V.ref P, .ref G]) hr
      have er : (upd H9 r (.lst [V.ref P, .ref G])) r = _ := upd_same
      generalize upd H9 r (.lst [V.ref P, .ref G]) = H10 at s10 er
      have hB10 := hB9.same s10
      walk_at "x"
      refine ⟨d, n, rfl, hB10.dr, ?_⟩
      rintro _ H11 ⟨w, rfl, w0, w1⟩ hD11 k11
      have hB11 := hB10.put hD11 k11
      walk_at "x"
      have k911 : Keep d H9 H11 := (Same.keep s10).trans k11
      have rd : r ≠ d := fun z => hB9.dr.ne (by rw [← z]; exact hr)
      have er11 := k11 _ _ er rd
      have rl : r ≠ l := fun z => by rw [z, Ll] at hr; cases hr
      have Pl : P ≠ l := fun z => by rw [z, Ll] at LP; exact no_lC LP
      have Gl : G ≠ l := fun z => by rw [z, Ll] at LG; exact no_lG LG
      have hcl : (cInts pl).length = c := by unfold cInts; rw [List.length_map, hpl]
      clear s10 er hr k11 hB9 hB10 hD11
      refine x_cut (fun σ' H' => ∃ (due : V) (r a1 a2 : Addr) (o1 o2 : Option (List V)), [some (V.ref sa), some (.ref d), some (.int (mem.length : Int)), some (.int (m : Int)), some (.ref Mo), some (.ref v), some (.int (ls.length : Int)), some (.int (turn : Int)), some (.ref l), some due, some (.ref r), some (.int (m : Int)), some (.int (w % 3)), v13, v14, v15] = σ' ∧ B1 K T.C_Vault T.C_Loan (AV1 (fun b => b = M ∨ b = d) l) H' d n v M D Mo m mem ls ∧ Keep d H9 H' ∧ H' r = some (.lst [.ref a1, .ref a2]) ∧ Ol H' a1 o1 ∧ Ol H' a2 o2 ∧ r ≠ l ∧ a1 ≠ l ∧ a2 ≠ l ∧ a1 ≠ d ∧ a2 ≠ d ∧ r ≠ d ∧
        ((w % 3 ≠ 0 ∧ due = .int (ls.length : Int) ∧ PlsOk o1 c mem.length ∧ belF o2 (i : Int) (m : Int) = true) ∨ (w % 3 ≠ 2 ∧ ¬ (PlsOk o1 c mem.length ∧ belF o2 (i : Int) (m : Int) = true) ∧ ∃ t, due = .ref t ∧ H' t = some (.tup [.str "refused", .str "memory"])))) ?_ ?_
      · walk_at "x"
        refine x_ite (fun p0 => ?_) (fun p0 => ?_)
        · obtain ⟨HC, hHC⟩ : ∃ HC, HC = H11 := ⟨_, rfl⟩
          subst hHC
          have hBx := hB11
          have kl := k911
          walk_at "t"
          walk_at "x"
          refine ⟨d, n, l, S, P, G, m, mem.length, c, i, pl, gv, rfl, kl _ _ Ll ld, kl _ _ LP Pd, kl _ _ LG Gd, ld, Pd, Gd, hpl, c1, by omega, by omega, hgv.len, m9, n1, n2, hBx.dr, ?_⟩
          rintro _ H13 ⟨r2, a1, a2, o1, o2, rfl, f0, f1, f2, e2, g1, g2, hno⟩ hD13 k13
          walk_at "x"
          refine ⟨by show 2 ≤ sizeLine; decide, fun t ht => ?_⟩
          have s14 := same_upd (o := .tup [V.str "refused", .str "memory"]) ht
          have et : (upd H13 t (.tup [V.str "refused", .str "memory"])) t = _ := upd_same
          generalize upd H13 t (.tup [V.str "refused", .str "memory"]) = H14 at s14 et
          have nb : ∀ b, HC b = none → b ≠ l ∧ b ≠ d := fun b hb => ⟨fun z => (by rw [z, kl _ _ Ll ld] at hb; cases hb), fun z => hBx.dr.ne (by rw [← z]; exact hb)⟩
          exact ⟨_, r2, a1, a2, o1, o2, rfl, (hBx.put hD13 k13).same s14, (kl.trans k13).trans (Same.keep s14), s14 _ _ e2, g1.mv fun u e => s14 _ _ e, g2.mv fun u e => s14 _ _ e, (nb _ f0).1, (nb _ f1).1, (nb _ f2).1, (nb _ f1).2, (nb _ f2).2, (nb _ f0).2, .inr ⟨by omega, hno, t, rfl, et⟩⟩
        walk_at "x"
        refine x_ite (fun p1 => ?_) (fun p1 => ?_)
        · walk_at "x"
          refine ⟨d, n, rfl, hB11.dr, ?_⟩
          rintro _ HC ⟨w2, rfl, w20, w21⟩ hD12 k12
          have hBx := hB11.put hD12 k12
          have kl := k911.trans k12
          have er2 := k12 _ _ er11 rd
          walk_at "x"
          refine x_ite (fun p2 => ?_) (fun p2 => ?_)
          · have p2 := p2
            walk_at "x"
            refine ⟨d, n, l, S, P, G, m, mem.length, c, i, pl, gv, rfl, kl _ _ Ll ld, kl _ _ LP Pd, kl _ _ LG Gd, ld, Pd, Gd, hpl, c1, by omega, by omega, hgv.len, m9, n1, n2, hBx.dr, ?_⟩
            rintro _ H13 ⟨r2, a1, a2, o1, o2, rfl, f0, f1, f2, e2, g1, g2, hno⟩ hD13 k13
            walk_at "x"
            refine ⟨by show 2 ≤ sizeLine; decide, fun t ht => ?_⟩
            have s14 := same_upd (o := .tup [V.str "refused", .str "memory"]) ht
            have et : (upd H13 t (.tup [V.str "refused", .str "memory"])) t = _ := upd_same
            generalize upd H13 t (.tup [V.str "refused", .str "memory"]) = H14 at s14 et
            have nb : ∀ b, HC b = none → b ≠ l ∧ b ≠ d := fun b hb => ⟨fun z => (by rw [z, kl _ _ Ll ld] at hb; cases hb), fun z => hBx.dr.ne (by rw [← z]; exact hb)⟩
            exact ⟨_, r2, a1, a2, o1, o2, rfl, (hBx.put hD13 k13).same s14, (kl.trans k13).trans (Same.keep s14), s14 _ _ e2, g1.mv fun u e => s14 _ _ e, g2.mv fun u e => s14 _ _ e, (nb _ f0).1, (nb _ f1).1, (nb _ f2).1, (nb _ f1).2, (nb _ f2).2, (nb _ f0).2, .inr ⟨by omega, hno, t, rfl, et⟩⟩
          · have p2 := p2
            walk_at "x"
            exact ⟨_, r, P, G, _, _, rfl, hBx, kl, er2, Ol.flat (kl _ _ LP Pd) (by rw [hcl]; omega) fun x hx => flC hx, Ol.flat (kl _ _ LG Gd) (by rw [List.length_map, hgv.len]; omega) fun x hx => flI hx, rl, Pl, Gl, Pd, Gd, rd, .inl ⟨by omega, rfl, pls_mk hpl hnd hlt, hgv.odd⟩⟩
        · have hBx := hB11
          have kl := k911
          have er2 := er11
          walk_at "f"
          walk_at "x"
          exact ⟨_, r, P, G, _, _, rfl, hBx, kl, er2, Ol.flat (kl _ _ LP Pd) (by rw [hcl]; omega) fun x hx => flC hx, Ol.flat (kl _ _ LG Gd) (by rw [List.length_map, hgv.len]; omega) fun x hx => flI hx, rl, Pl, Gl, Pd, Gd, rd, .inl ⟨by omega, rfl, pls_mk hpl hnd hlt, hgv.odd⟩⟩
      rintro _ H12 ⟨due, r, a1, a2, o1, o2, rfl, hB12, kl, e2, g1, g2, rl, a1l, a2l, a1d, a2d, rd, hdue⟩
      clear hB11 k911 er11
      have Ll := kl _ _ Ll ld
      have LS := kl _ _ LS Sd
      walk_at "x"
      refine x_cut (fun σ' H' => ∃ (due : V) (m' : Nat) (S : Addr) (as : List Addr) (ss : List Stp), [some (V.ref sa), some (.ref d), some (.int (mem.length : Int)), some (.int (m : Int)), some (.ref Mo), some (.ref v), some (.int (ls.length : Int)), some (.int (turn : Int)), some (.ref l), some due, some (.ref r), some (.int (m' : Int)), some (.int (w % 3)), v13, v14, v15] = σ' ∧ B1 K T.C_Vault T.C_Loan (AV1 (fun b => b = M ∨ b = d) l) H' d n v M D Mo m mem ls ∧ H' l = some (.lst [.int (c : Int), .int (i : Int), .ref S, .ref P, .ref G]) ∧ H' S = some (.lst (as.map V.ref)) ∧ StpsAt H' as ss ∧ PrOk ss m' c i ∧ H' r = some (.lst [.ref a1, .ref a2]) ∧ Ol H' a1 o1 ∧ Ol H' a2 o2 ∧ Due H' m m' mem.length c i (w % 3) o1 o2 ls.length due) ?_ ?_
      · walk_at "x"
        refine x_ite (fun p1 => ?_) (fun p1 => ?_)
        · walk_at "x"
          refine .inr ⟨_, rfl, ?_⟩
          obtain ⟨kk, hkk, hk1⟩ : ∃ kk : Int, (if decide ((m : Int) = 10 ^ Int.toNat 9) = true then (1 : Int) else 0) = kk ∧ ((m = 1000000000 ∧ kk = 1) ∨ (m ≠ 1000000000 ∧ kk = 0)) := by
            have e9 : (10 ^ Int.toNat 9 : Int) = 1000000000 := by decide
            rw [e9]
            by_cases e : m = 1000000000
            · exact ⟨1, by rw [decide_eq_true (by omega)]; rfl, .inl ⟨e, rfl⟩⟩
            · exact ⟨0, by rw [decide_eq_false (by omega)]; rfl, .inr ⟨e, rfl⟩⟩
          rw [hkk]
          have kk0 : 0 ≤ kk ∧ kk ≤ 1 := by omega
          walk_at "x"
          obtain ⟨m', hm', hne, h2, h9⟩ : ∃ m' : Nat, (m : Int) + 1 - 2 * kk = (m' : Int) ∧ m' ≠ m ∧ 2 ≤ m' ∧ m' ≤ 1000000000 := by
            rcases hk1 with ⟨e1, e2⟩ | ⟨e1, e2⟩
            · exact ⟨m - 1, by omega, by omega, by omega, by omega⟩
            · exact ⟨m + 1, by omega, by omega, by omega, by omega⟩
          rw [hm']
          refine ⟨by show 0 ≤ sizeLine; decide, fun S2 hS2 => ?_⟩
          have s13 := same_upd (o := .lst []) hS2
          have e13 : (upd H12 S2 (.lst [])) S2 = some (.lst (([] : List Addr).map V.ref)) := upd_same
          generalize upd H12 S2 (.lst []) = H13 at s13 e13
          have S2l : S2 ≠ l := fun z => by rw [z, Ll] at hS2; cases hS2
          walk_at "x"
          refine x_subL (k := 2) (s13 _ _ Ll) (ixN_nat (i := 2) (by show 2 < 5; decide)) ?_
          have k14 : Keep l H13 (upd H13 l (.lst ([V.int (c : Int), .int (i : Int), .ref S, .ref P, .ref G].set 2 (.ref S2)))) := keep_upd
          have e14 : (upd H13 l (.lst ([V.int (c : Int), .int (i : Int), .ref S, .ref P, .ref G].set 2 (.ref S2)))) l = some (.lst [.int (c : Int), .int (i : Int), .ref S2, .ref P, .ref G]) := upd_same
          have hB14 := (hB12.same s13).wr (.inr rfl) lM k14 ((hB12.same s13).dr.upd ld ln_) ⟨_, e14⟩
          generalize upd H13 l (.lst ([V.int (c : Int), .int (i : Int), .ref S, .ref P, .ref G].set 2 (.ref S2))) = H14 at k14 e14 hB14
          walk_at "x"
          refine ⟨by show 2 ≤ sizeLine; decide, fun t ht => ?_⟩
          have s15 := same_upd (o := .tup [V.str "refused", .str "step"]) ht
          have et : (upd H14 t (.tup [V.str "refused", .str "step"])) t = _ := upd_same
          generalize upd H14 t (.tup [V.str "refused", .str "step"]) = H15 at s15 et
          have k1215 : ∀ b u, b ≠ l → H12 b = some u → H15 b = some u := fun b u hb e => s15 _ _ (k14 _ _ (s13 _ _ e) hb)
          exact ⟨_, m', S2, [], [], rfl, hB14.same s15, s15 _ _ e14, s15 _ _ (k14 _ _ e13 S2l), ⟨rfl, fun i x b e => by simp at e⟩, ⟨h2, h9, c1, ok.c60, ok.i60, by decide, fun s hs => by cases hs⟩, k1215 _ _ rl e2, g1.mv fun u e => k1215 _ _ a1l e, g2.mv fun u e => k1215 _ _ a2l e, .inr (.inr ⟨by omega, hne, t, rfl, et⟩)⟩
        · walk_at "x"
          refine ⟨due, m, S, as, ss, rfl, hB12, Ll, LS, Lst.tups (keep_tupsA kl hDr9), ok, e2, g1, g2, ?_⟩
          rcases hdue with ⟨h0, rfl, h1, h2⟩ | ⟨h0, h1, t, rfl, ht⟩
          · exact .inl ⟨by omega, rfl, rfl, h1, h2⟩
          · exact .inr (.inl ⟨h0, rfl, h1, t, rfl, ht⟩)
      clear Ll LS Lst LP LG hpl hnd hlt hgv hdue hB12 e2 g1 g2 kl ok hDr9
      rintro _ H13 ⟨due, m', S, as, ss, rfl, hB13, Ll, LS, Lst, ok, e2, g1, g2, hdue⟩
      walk_at "x"
      refine x_make1 ?_
      walk_at "x"
      refine x_ixL (sq_of Ll) (show _ = some (V.int (c : Int)) from rfl) ?_
      walk_at "x"
      refine x_ixL (sq_of Ll) (show _ = some (V.int (i : Int)) from rfl) ?_
      walk_at "x"
      refine x_ixL (sq_of Ll) (show _ = some (V.ref S) from rfl) ?_
      walk_at "x"
      refine x_listL (sq_of LS) fun S3 hS3 => ?_
      have s14 := same_upd (o := .lst (as.map V.ref)) hS3
      have e14 : (upd H13 S3 (.lst (as.map V.ref))) S3 = some (.lst (as.map V.ref)) := upd_same
      generalize upd H13 S3 (.lst (as.map V.ref)) = H14 at s14 e14
      walk_at "x"
      refine new_progA (m := m') hC e14 (Lst.tups (Tups.same s14)) ok fun pa Lp H15 hLp s15 hPr => ?_
      have s1315 := s14.trans s15
      have hB15 := hB13.same s1315
      have e2 := s1315 _ _ e2
      have g1 := g1.mv fun u e => s1315 _ _ e
      have g2 := g2.mv fun u e => s1315 _ _ e
      have hdue := hdue.keep fun b xs e => s1315 _ _ e
      clear hB13 s14 e14 s15 hLp hS3 Lst Ll LS
      walk_at "x"
      refine x_cut (fun σ' H' => ∃ (ls2 : Lns), [some (V.ref sa), some (.ref d), some (.int (mem.length : Int)), some (.int (m : Int)), some (.ref Mo), some (.ref v), some (.int (ls.length : Int)), some (.int (turn : Int)), some (.ref l), some due, some (.ref r), some (.int (m' : Int)), some (.int (w % 3)), some (.ref pa), v14, v15] = σ' ∧ B1 K T.C_Vault T.C_Loan (AV1 (fun b => b = M ∨ b = d) l) H' d n v M D Mo m mem ls2 ∧ ((w % 3 = 2 ∧ ∃ a x, ls2 = ls ++ [(ls.length, a, x)]) ∨ (w % 3 ≠ 2 ∧ ls2 = ls))) ?_ ?_
      · walk_at "x"
        refine x_ixL (sq_of e2) (show _ = some (V.ref a1) from rfl) ?_
        walk_at "x"
        refine x_ixL (sq_of e2) (show _ = some (V.ref a2) from rfl) ?_
        walk_at "x"
        refine ⟨d, v, M, D, pa, Lp, .ref a1, .ref a2, o1, o2, _, m, m', ls.length, c, i, mem, ls, as, ss, rfl, hB15.va, hCL, hPr, ok, g1.nums a1d, g2.nums a2d, by omega, (fun b hb z => by obtain ⟨ys, e⟩ := hB15.al b hb; rw [z] at e; cases e), fun hne t H16 s16 et => ?_, fun he hno t H16 s16 et => ?_, fun he P0 G0 pl gv eP eG hP0 hG0 hpl hnd hlt hgv a H16 ha hV16 k16 => ?_⟩
        · rcases hdue with ⟨_, e, _⟩ | ⟨_, e, _⟩ | ⟨p, e, t2, rfl, ht2⟩
          · exact absurd e hne
          · exact absurd e hne
          walk_at "x"
          refine ⟨_, _, rfl, eqv_rs (n := 2) et (s16 _ _ ht2), ?_⟩
          walk_at "x"
          walk_at "f"
          exact ⟨ls, rfl, hB15.same s16, .inr ⟨p, rfl⟩⟩
        · rcases hdue with ⟨_, _, _, h1, h2⟩ | ⟨p, e, _, t2, rfl, ht2⟩ | ⟨p, e, _⟩
          · exact absurd ⟨h1, h2⟩ hno
          · walk_at "x"
            refine ⟨_, _, rfl, eqv_rs (n := 2) et (s16 _ _ ht2), ?_⟩
            walk_at "x"
            walk_at "f"
            exact ⟨ls, rfl, hB15.same s16, .inr ⟨p, rfl⟩⟩
          · exact absurd he e
        · rcases hdue with ⟨p, _, rfl, h1, h2⟩ | ⟨p, e, hno, _⟩ | ⟨p, e, _⟩
          · walk_at "x"
            refine ⟨_, _, rfl, Eqv.int (n := 3), ?_⟩
            walk_at "x"
            walk_at "f"
            exact ⟨_, rfl, hB15.lent hV16 k16, .inl ⟨p, a, _, rfl⟩⟩
          · refine absurd ⟨?_, ?_⟩ hno
            · have g := g1.at (V.ref.inj eP).symm hP0
              rw [g]
              exact pls_mk hpl hnd hlt
            · have g := g2.at (V.ref.inj eG).symm hG0
              rw [g]
              exact hgv.odd
          · exact absurd he e
      have hlt0 := hB15.va.lt
      rintro _ H16 ⟨ls2, rfl, hB16, hls2⟩
      clear hB15 e2 g1 g2 hdue hPr
      have hl2 : ls2.length ≤ turn + 1 ∧ ((ls.length : Int) + (if decide (w % 3 = 2) = true then 1 else 0) = (ls2.length : Int)) := by
        rcases hls2 with ⟨p, a, x, rfl⟩ | ⟨p, rfl⟩
        · rw [List.length_append, decide_eq_true p]
          exact ⟨by show ls.length + 1 ≤ turn + 1; omega, by show (ls.length : Int) + 1 = ((ls.length + 1 : Nat) : Int); omega⟩
        · rw [decide_eq_false p]
          exact ⟨by omega, by show (ls2.length : Int) + 0 = _; omega⟩
      walk_at "x"
      refine x_cut (fun σ' H' => [some (V.ref sa), some (.ref d), some (.int (mem.length : Int)), some (.int (m : Int)), some (.ref Mo), some (.ref v), some (.int (ls.length : Int)), some (.int (turn : Int)), some (.ref l), some due, some (.ref r), some (.int (m' : Int)), some (.int (w % 3)), some (.ref pa), v14, v15] = σ' ∧ B1 K T.C_Vault T.C_Loan (AV1 (fun b => b = M ∨ b = d) l) H' d n v M D Mo m mem ls2) ?_ ?_
      · walk_at "x"
        refine x_ite (fun p2 => ?_) (fun p2 => ?_)
        · rcases hls2 with ⟨_, a, x, rfl⟩ | ⟨p, _⟩
          · obtain ⟨dv, hv16⟩ := hB16.va.ob
            have hmem : (ls.length, a, x) ∈ ls ++ [(ls.length, a, x)] := List.mem_append_right _ (List.mem_singleton.mpr rfl)
            have hop : openAt (ls ++ [(ls.length, a, x)]) (.int (ls.length : Int)) = some (ls.length, a, x) := find_uniq (y := (ls.length, a, x)) hB16.va.asc hmem
            have hbf := bf_new (a := a) (x := x) hlt0
            walk_at "x"
            refine x_meth1 ?_
            walk_at "x"
            refine ⟨v, dv, _, rfl, hv16, rfl, ?_⟩
            walk_at "x"
            refine ⟨T.C_Loan, v, M, D, _, m, _, mem, _, .int (ls.length : Int), 0, rfl, hB16.va, .int _, by omega, by decide, fun ho => (by rw [hop] at ho; cases ho), fun y hy hb => ?_, fun y hy hb H17 hV17 k17 => ?_⟩
            · rw [hop] at hy; cases hy
              rw [hbf] at hb; cases hb
            rw [hop] at hy; cases hy
            obtain ⟨n0, m0, l0⟩ := adv0 (mem := mem) (hB16.va.ok _ hmem) rfl
            have hV17 : VaAt K T.C_Vault T.C_Loan (AV1 (fun b => b = M ∨ b = d) l) H17 v M D m (ls ++ [(ls.length, a, x)]).length mem (ls ++ [(ls.length, a, x)]) := by
              have e := putL_id hB16.va.asc hmem
              rw [m0, l0] at hV17
              rw [e] at hV17
              exact hV17
            obtain ⟨_, _, _, _, _, ga, _⟩ := (hB16.va.ln _ hmem).at_
            have hB17 := hB16.adv hV17 ga k17
            rw [n0]
            refine ⟨_, _, rfl, Eqv.int (n := 3), ?_⟩
            walk_at "x"
            walk_at "f"
            exact ⟨rfl, hB17⟩
          · exact absurd p2 p
        · walk_at "f"
          exact ⟨rfl, hB16⟩
      rintro _ H17 ⟨rfl, hB17⟩
      clear hB16 hls2
      walk_at "x"
      refine .inr ⟨_, rfl, ?_⟩
      walk_at "x"
      rw [hl2.2]
      refine x_forPreL1 ?_
      walk_at "x"
      refine ⟨by show 5 ≤ sizeLine; decide, fun rb hrb => ?_⟩
      have s18 := same_upd (o := .lst [V.int (ls2.length : Int), .int (-1), .bl true, .non, .str "0"]) hrb
      have eb : (upd H17 rb (.lst [V.int (ls2.length : Int), .int (-1), .bl true, .non, .str "0"])) rb = _ := upd_same
      have rbd : rb ≠ d := fun z => hB17.dr.ne (by rw [← z]; exact hrb)
      have hB18 := hB17.same s18
      generalize upd H17 rb (.lst [V.int (ls2.length : Int), .int (-1), .bl true, .non, .str "0"]) = H18 at s18 eb hB18
      clear hB17 s18 hrb
      refine x_forL (p := rb) [V.int (ls2.length : Int), .int (-1), .bl true, .non, .str "0"] (fun i σ' H' => ∃ v14 : Option V, σ' = [some (V.ref sa), some (.ref d), some (.int (mem.length : Int)), some (.int (m : Int)), some (.ref Mo), some (.ref v), some (.int (ls2.length : Int)), some (.int (turn : Int)), some (.ref l), some due, some (.ref r), some (.int (m' : Int)), some (.int (w % 3)), some (.ref pa), v14, v15] ∧ B1 K T.C_Vault T.C_Loan (AV1 (fun b => b = M ∨ b = d) l) H' d n v M D Mo m mem ls2 ∧ H' rb = some (.lst [V.int (ls2.length : Int), .int (-1), .bl true, .non, .str "0"])) (fun R r => r) (sq_of eb) ⟨_, rfl, hB18, eb⟩ (fun i σ' H' hi ⟨_, _, _, e⟩ => sq_of e) ?_ ?_
      · rintro i x σ' H' hx ⟨v14, rfl, hB19, eb⟩
        have hx := List.mem_of_getElem? hx
        have hxo : (∀ H0, Odd H0 x) ∧ openAt ls2 x = none := by
          simp only [List.mem_cons, List.not_mem_nil, or_false] at hx
          rcases hx with rfl | rfl | rfl | rfl | rfl
          · exact ⟨fun _ => .int _, openAt_none hB19.va.lt (by show (decide (0 ≤ (ls2.length : Int)) && decide ((ls2.length : Int) < (ls2.length : Int))) = false; rw [decide_eq_false (show ¬ (ls2.length : Int) < (ls2.length : Int) by omega), Bool.and_false])⟩
          · exact ⟨fun _ => .int _, openAt_none hB19.va.lt rfl⟩
          · exact ⟨fun _ => .bl _, rfl⟩
          · exact ⟨fun _ => .non, rfl⟩
          · exact ⟨fun _ => .str _, rfl⟩
        walk_at "x"
        refine ⟨d, n, rfl, hB19.dr, ?_⟩
        rintro _ H20 ⟨y, rfl, y0, y1⟩ hD20 k20
        have hB20 := hB19.put hD20 k20
        walk_at "x"
        refine ⟨T.C_Loan, v, M, D, _, m, ls2.length, mem, ls2, x, _, rfl, hB20.va, by omega, hxo.1 _, hxo.2, fun H21 s21 => ?_⟩
        walk_at "x"
        walk_at "f"
        exact ⟨_, rfl, hB20.same s21, s21 _ _ (k20 _ _ eb rbd)⟩
      · rintro σ' H' ⟨v14, rfl, hB19, _⟩
        exact ⟨ls2, _, _, _, _, _, _, _, _, _, rfl, hl2.1, hB19.shrink (.inr rfl) (.inl rfl)⟩
    · rintro σ' H' ⟨ls, v7, v8, v9, v10, v11, v12, v13, v14, v15, rfl, hls, hB⟩
      have hls : ls.length ≤ 9 := by omega
      walk_at "x"
      obtain ⟨dv, hv1⟩ := hB.va.ob
      refine x_meth1 ?_
      walk_at "x"
      refine ⟨v, dv, _, rfl, hv1, rfl, ?_⟩
      walk_at "x"
      refine ⟨T.C_Vault, T.C_Loan, v, M, D, _, m, _, mem, ls, rfl, hB.va, by omega, fun t ht => ?_⟩
      have w4 := same_upd (o := .lst ((tksOf ls).map V.int)) ht
      have f4 : (upd H' t (.lst ((tksOf ls).map V.int))) t = some (.lst ((tksOf ls).map V.int)) := upd_same
      rw [tks1 hB.tk] at w4 f4 ⊢
      generalize upd H' t (.lst (((List.range ls.length).map fun (k : Nat) => (k : Int)).map V.int)) = H4a at w4 f4
      walk_at "x"
      refine x_lcR1 (ls.length : Int) (fun o k H' => Same H4a H' ∧ H' o = some (.lst (((List.range k).map fun (k : Nat) => (k : Int)).map V.int))) (fun R r => by walk_at "x"; exact r) (by omega) (by omega) (fun o ho => ⟨same_upd ho, upd_same⟩) (fun x => rfl) ?_ ?_
      · rintro o k H5 ho hk ⟨k5, hOg⟩
        walk_at "x"
        refine ⟨_, hOg, lt_line (by rw [List.length_map, List.length_map, List.length_range]; omega), sput k5 ho, ?_⟩
        rw [upd_same, List.range_succ, List.map_append, List.map_append]; rfl
      rintro o H5 ho ⟨k5, hO⟩
      rw [Int.toNat_natCast] at hO
      walk_at "x"
      refine ⟨_, _, rfl, Eqv.ints (n := 2) (k5 _ _ f4) hO (by rw [List.length_map, List.length_range]; omega), ?_⟩
      walk_at "x"
      walk_at "t"
      have hB5 := hB.same (w4.trans k5)
      obtain ⟨dv2, hv2⟩ := hB5.va.ob
      refine x_prop ?_
      walk_at "x"
      refine ⟨v, dv2, _, rfl, hv2, ?_⟩
      refine ⟨T.C_Vault, T.C_Loan, v, M, D, _, m, _, mem, _, rfl, hB5.va, fun t1 ht1 => ?_⟩
      have w3 := same_upd (o := .lst (mem.map V.int)) ht1
      have f3 : (upd H5 t1 (.lst (mem.map V.int))) t1 = some (.lst (mem.map V.int)) := upd_same
      generalize upd H5 t1 (.lst (mem.map V.int)) = H6a at w3 f3
      walk_at "x"
      refine ⟨_, _, rfl, Eqv.ints (n := 2) f3 (w3 _ _ hB5.mo) (by omega), ?_⟩
      walk_at "x"
      exact q _


theorem all_mk {l : PySem.W.OpenLaw} {w : World} {K : PySem.W.Frag} {h : Heap} {mg : Str → Option Value} {fa : Addr} (X : K.In h) (G : h.Ns mainGlobals mg) (hfa : mg "law" = some (.ref fa))
    {f0 : Addr} {od0 an0 : Option Addr} {sl0 : Array (Option Value)} {oc0 kV0 dc0 pm0 cd0 ct0 : Value}
    {f1 : Addr} {od1 an1 : Option Addr} {sl1 : Array (Option Value)} {oc1 kV1 dc1 pm1 cd1 ct1 : Value}
    {f2 : Addr} {od2 an2 : Option Addr} {sl2 : Array (Option Value)} {oc2 kV2 dc2 pm2 cd2 ct2 : Value}
    {f3 : Addr} {od3 an3 : Option Addr} {sl3 : Array (Option Value)} {oc3 kV3 dc3 pm3 cd3 ct3 : Value}
    {f4 : Addr} {od4 an4 : Option Addr} {sl4 : Array (Option Value)} {oc4 kV4 dc4 pm4 cd4 ct4 : Value}
    {f5 : Addr} {od5 an5 : Option Addr} {sl5 : Array (Option Value)} {oc5 kV5 dc5 pm5 cd5 ct5 : Value}
    {f6 : Addr} {od6 an6 : Option Addr} {sl6 : Array (Option Value)} {oc6 kV6 dc6 pm6 cd6 ct6 : Value}
    {f7 : Addr} {od7 an7 : Option Addr} {sl7 : Array (Option Value)} {oc7 kV7 dc7 pm7 cd7 ct7 : Value}
    {f8 : Addr} {od8 an8 : Option Addr} {sl8 : Array (Option Value)} {oc8 kV8 dc8 pm8 cd8 ct8 : Value}
    {f9 : Addr} {od9 an9 : Option Addr} {sl9 : Array (Option Value)} {oc9 kV9 dc9 pm9 cd9 ct9 : Value}
    {f10 : Addr} {od10 an10 : Option Addr} {sl10 : Array (Option Value)} {oc10 kV10 dc10 pm10 cd10 ct10 : Value}
    {f11 : Addr} {od11 an11 : Option Addr} {sl11 : Array (Option Value)} {oc11 kV11 dc11 pm11 cd11 ct11 : Value}
    {f12 : Addr} {od12 an12 : Option Addr} {sl12 : Array (Option Value)} {oc12 kV12 dc12 pm12 cd12 ct12 : Value}
    {f13 : Addr} {od13 an13 : Option Addr} {sl13 : Array (Option Value)} {oc13 kV13 dc13 pm13 cd13 ct13 : Value}
    {f14 : Addr} {od14 an14 : Option Addr} {sl14 : Array (Option Value)} {oc14 kV14 dc14 pm14 cd14 ct14 : Value}
    {f15 : Addr} {od15 an15 : Option Addr} {sl15 : Array (Option Value)} {oc15 kV15 dc15 pm15 cd15 ct15 : Value}
    {f16 : Addr} {od16 an16 : Option Addr} {sl16 : Array (Option Value)} {oc16 kV16 dc16 pm16 cd16 ct16 : Value}
    {f17 : Addr} {od17 an17 : Option Addr} {sl17 : Array (Option Value)} {oc17 kV17 dc17 pm17 cd17 ct17 : Value}
    {f18 : Addr} {od18 an18 : Option Addr} {sl18 : Array (Option Value)} {oc18 kV18 dc18 pm18 cd18 ct18 : Value}
    {f19 : Addr} {od19 an19 : Option Addr} {sl19 : Array (Option Value)} {oc19 kV19 dc19 pm19 cd19 ct19 : Value}
    {f20 : Addr} {od20 an20 : Option Addr} {sl20 : Array (Option Value)} {oc20 kV20 dc20 pm20 cd20 ct20 : Value}
    {f21 : Addr} {od21 an21 : Option Addr} {sl21 : Array (Option Value)} {oc21 kV21 dc21 pm21 cd21 ct21 : Value}
    {f22 : Addr} {od22 an22 : Option Addr} {sl22 : Array (Option Value)} {oc22 kV22 dc22 pm22 cd22 ct22 : Value}
    {f23 : Addr} {od23 an23 : Option Addr} {sl23 : Array (Option Value)} {oc23 kV23 dc23 pm23 cd23 ct23 : Value}
    {f24 : Addr} {od24 an24 : Option Addr} {sl24 : Array (Option Value)} {oc24 kV24 dc24 pm24 cd24 ct24 : Value}
    {f25 : Addr} {od25 an25 : Option Addr} {sl25 : Array (Option Value)} {oc25 kV25 dc25 pm25 cd25 ct25 : Value}
    {f26 : Addr} {od26 an26 : Option Addr} {sl26 : Array (Option Value)} {oc26 kV26 dc26 pm26 cd26 ct26 : Value}
    {f27 : Addr} {od27 an27 : Option Addr} {sl27 : Array (Option Value)} {oc27 kV27 dc27 pm27 cd27 ct27 : Value}
    {f28 : Addr} {od28 an28 : Option Addr} {sl28 : Array (Option Value)} {oc28 kV28 dc28 pm28 cd28 ct28 : Value}
    {f29 : Addr} {od29 an29 : Option Addr} {sl29 : Array (Option Value)} {oc29 kV29 dc29 pm29 cd29 ct29 : Value}
    {f30 : Addr} {od30 an30 : Option Addr} {sl30 : Array (Option Value)} {oc30 kV30 dc30 pm30 cd30 ct30 : Value}
    {f31 : Addr} {od31 an31 : Option Addr} {sl31 : Array (Option Value)} {oc31 kV31 dc31 pm31 cd31 ct31 : Value}
    {f32 : Addr} {od32 an32 : Option Addr} {sl32 : Array (Option Value)} {oc32 kV32 dc32 pm32 cd32 ct32 : Value}
    {f33 : Addr} {od33 an33 : Option Addr} {sl33 : Array (Option Value)} {oc33 kV33 dc33 pm33 cd33 ct33 : Value}
    {f34 : Addr} {od34 an34 : Option Addr} {sl34 : Array (Option Value)} {oc34 kV34 dc34 pm34 cd34 ct34 : Value}
    {f35 : Addr} {od35 an35 : Option Addr} {sl35 : Array (Option Value)} {oc35 kV35 dc35 pm35 cd35 ct35 : Value}
    {f36 : Addr} {od36 an36 : Option Addr} {sl36 : Array (Option Value)} {oc36 kV36 dc36 pm36 cd36 ct36 : Value}
    {f37 : Addr} {od37 an37 : Option Addr} {sl37 : Array (Option Value)} {oc37 kV37 dc37 pm37 cd37 ct37 : Value}
    {f38 : Addr} {od38 an38 : Option Addr} {sl38 : Array (Option Value)} {oc38 kV38 dc38 pm38 cd38 ct38 : Value}
    {f39 : Addr} {od39 an39 : Option Addr} {sl39 : Array (Option Value)} {oc39 kV39 dc39 pm39 cd39 ct39 : Value}
    {f40 : Addr} {od40 an40 : Option Addr} {sl40 : Array (Option Value)} {oc40 kV40 dc40 pm40 cd40 ct40 : Value}
    {f41 : Addr} {od41 an41 : Option Addr} {sl41 : Array (Option Value)} {oc41 kV41 dc41 pm41 cd41 ct41 : Value}
    {f42 : Addr} {od42 an42 : Option Addr} {sl42 : Array (Option Value)} {oc42 kV42 dc42 pm42 cd42 ct42 : Value}
    {f43 : Addr} {od43 an43 : Option Addr} {sl43 : Array (Option Value)} {oc43 kV43 dc43 pm43 cd43 ct43 : Value}
    {f44 : Addr} {od44 an44 : Option Addr} {sl44 : Array (Option Value)} {oc44 kV44 dc44 pm44 cd44 ct44 : Value}
    {f45 : Addr} {od45 an45 : Option Addr} {sl45 : Array (Option Value)} {oc45 kV45 dc45 pm45 cd45 ct45 : Value}
    {f46 : Addr} {od46 an46 : Option Addr} {sl46 : Array (Option Value)} {oc46 kV46 dc46 pm46 cd46 ct46 : Value}
    {f47 : Addr} {od47 an47 : Option Addr} {sl47 : Array (Option Value)} {oc47 kV47 dc47 pm47 cd47 ct47 : Value}
    {f48 : Addr} {od48 an48 : Option Addr} {sl48 : Array (Option Value)} {oc48 kV48 dc48 pm48 cd48 ct48 : Value}
    {f49 : Addr} {od49 an49 : Option Addr} {sl49 : Array (Option Value)} {oc49 kV49 dc49 pm49 cd49 ct49 : Value}
    {f50 : Addr} {od50 an50 : Option Addr} {sl50 : Array (Option Value)} {oc50 kV50 dc50 pm50 cd50 ct50 : Value}
    {f51 : Addr} {od51 an51 : Option Addr} {sl51 : Array (Option Value)} {oc51 kV51 dc51 pm51 cd51 ct51 : Value}
    {pp51 : Addr} {rs51 : List Value}
    {f52 : Addr} {od52 an52 : Option Addr} {sl52 : Array (Option Value)} {oc52 kV52 dc52 pm52 cd52 ct52 : Value}
    {f53 : Addr} {od53 an53 : Option Addr} {sl53 : Array (Option Value)} {oc53 kV53 dc53 pm53 cd53 ct53 : Value}
    {f54 : Addr} {od54 an54 : Option Addr} {sl54 : Array (Option Value)} {oc54 kV54 dc54 pm54 cd54 ct54 : Value}
    {f55 : Addr} {od55 an55 : Option Addr} {sl55 : Array (Option Value)} {oc55 kV55 dc55 pm55 cd55 ct55 : Value}
    {f56 : Addr} {od56 an56 : Option Addr} {sl56 : Array (Option Value)} {oc56 kV56 dc56 pm56 cd56 ct56 : Value}
    {f57 : Addr} {od57 an57 : Option Addr} {sl57 : Array (Option Value)} {oc57 kV57 dc57 pm57 cd57 ct57 : Value}
    {f58 : Addr} {od58 an58 : Option Addr} {sl58 : Array (Option Value)} {oc58 kV58 dc58 pm58 cd58 ct58 : Value}
    {C_Program : Addr}
    {C_Loan : Addr}
    {C_Vault : Addr}
    {E_BrimfulError : Addr}
    {E_BadTicket : Addr}
    {E_Busy : Addr}
    {E_BadStep : Addr}
    {E_BadMemory : Addr}
    {t_GREATEST_MODULUS : Tok}
    {t_MOST_CELLS_programs : Tok}
    {t_MOST_CELLS_vault : Tok}
    {t_MOST_FACTORS : Tok}
    {t_MOST_INPUTS : Tok}
    {t_MOST_STEPS : Tok}
    (aC_Program : PySem.W.nsIn K mainGlobals "Program" = some (some (.ref C_Program)))
    (pg_Program : PySem.W.plainGet K C_Program Str.empty = true) (hd_Program : PySem.W.hasDictIn K C_Program = true) (po_Program : PySem.W.plainOver K C_Program = true)
    (sa_Program : PySem.W.findIn K (.ref C_Program) "__setattr__" = some (some (.builtin "object.__setattr__"))) (mk_Program : PySem.W.makesIn K C_Program = true) (kc_Program : PySem.W.keepIn K (.ref C_Program) = true)
    (aC_Loan : PySem.W.nsIn K mainGlobals "Loan" = some (some (.ref C_Loan)))
    (pg_Loan : PySem.W.plainGet K C_Loan Str.empty = true) (hd_Loan : PySem.W.hasDictIn K C_Loan = true) (po_Loan : PySem.W.plainOver K C_Loan = true)
    (sa_Loan : PySem.W.findIn K (.ref C_Loan) "__setattr__" = some (some (.builtin "object.__setattr__"))) (mk_Loan : PySem.W.makesIn K C_Loan = true) (kc_Loan : PySem.W.keepIn K (.ref C_Loan) = true)
    (aC_Vault : PySem.W.nsIn K mainGlobals "Vault" = some (some (.ref C_Vault)))
    (pg_Vault : PySem.W.plainGet K C_Vault Str.empty = true) (hd_Vault : PySem.W.hasDictIn K C_Vault = true) (po_Vault : PySem.W.plainOver K C_Vault = true)
    (sa_Vault : PySem.W.findIn K (.ref C_Vault) "__setattr__" = some (some (.builtin "object.__setattr__"))) (mk_Vault : PySem.W.makesIn K C_Vault = true) (kc_Vault : PySem.W.keepIn K (.ref C_Vault) = true)
    (hnE : PySem.W.specialIn K (.builtin "object.__class__") "__get__" = some (some (.builtin "getset_descriptor.__get__"))) (htE : PySem.W.takesIn K (.builtin "object.__class__") = some true)
    (aE_BrimfulError : PySem.W.nsIn K mainGlobals "BrimfulError" = some (some (.ref E_BrimfulError))) (xE_BrimfulError : PySem.W.excIn K E_BrimfulError [.type "ValueError", .type "Exception", .type "BaseException", .type "object"] "ValueError.__new__" = true) (kE_BrimfulError : PySem.W.keepIn K (.ref E_BrimfulError) = true)
    (bE_BrimfulError : PySem.W.subIn K (.ref E_BrimfulError) (.type "BaseException") = some true) (tE_BrimfulError : PySem.W.typeIn K (.ref E_BrimfulError) = some (.type "type")) (dE_BrimfulError : PySem.W.hasDictIn K E_BrimfulError = true)
    (h1E_BrimfulError : PySem.W.findIn K (.ref E_BrimfulError) "__getattribute__" = some (some (.builtin "BaseException.__getattribute__"))) (h2E_BrimfulError : PySem.W.findIn K (.ref E_BrimfulError) "__getattr__" = some none) (h3E_BrimfulError : PySem.W.findIn K (.ref E_BrimfulError) "__class__" = some (some (.builtin "object.__class__"))) (h4E_BrimfulError : PySem.W.mroIn K E_BrimfulError (.type "object") = some true)
    (aE_BadTicket : PySem.W.nsIn K mainGlobals "BadTicket" = some (some (.ref E_BadTicket))) (xE_BadTicket : PySem.W.excIn K E_BadTicket [.type "ValueError", .type "Exception", .type "BaseException", .type "object"] "ValueError.__new__" = true) (kE_BadTicket : PySem.W.keepIn K (.ref E_BadTicket) = true)
    (bE_BadTicket : PySem.W.subIn K (.ref E_BadTicket) (.type "BaseException") = some true) (tE_BadTicket : PySem.W.typeIn K (.ref E_BadTicket) = some (.type "type")) (dE_BadTicket : PySem.W.hasDictIn K E_BadTicket = true)
    (h1E_BadTicket : PySem.W.findIn K (.ref E_BadTicket) "__getattribute__" = some (some (.builtin "BaseException.__getattribute__"))) (h2E_BadTicket : PySem.W.findIn K (.ref E_BadTicket) "__getattr__" = some none) (h3E_BadTicket : PySem.W.findIn K (.ref E_BadTicket) "__class__" = some (some (.builtin "object.__class__"))) (h4E_BadTicket : PySem.W.mroIn K E_BadTicket (.type "object") = some true)
    (aE_Busy : PySem.W.nsIn K mainGlobals "Busy" = some (some (.ref E_Busy))) (xE_Busy : PySem.W.excIn K E_Busy [.type "ValueError", .type "Exception", .type "BaseException", .type "object"] "ValueError.__new__" = true) (kE_Busy : PySem.W.keepIn K (.ref E_Busy) = true)
    (bE_Busy : PySem.W.subIn K (.ref E_Busy) (.type "BaseException") = some true) (tE_Busy : PySem.W.typeIn K (.ref E_Busy) = some (.type "type")) (dE_Busy : PySem.W.hasDictIn K E_Busy = true)
    (h1E_Busy : PySem.W.findIn K (.ref E_Busy) "__getattribute__" = some (some (.builtin "BaseException.__getattribute__"))) (h2E_Busy : PySem.W.findIn K (.ref E_Busy) "__getattr__" = some none) (h3E_Busy : PySem.W.findIn K (.ref E_Busy) "__class__" = some (some (.builtin "object.__class__"))) (h4E_Busy : PySem.W.mroIn K E_Busy (.type "object") = some true)
    (aE_BadStep : PySem.W.nsIn K mainGlobals "BadStep" = some (some (.ref E_BadStep))) (xE_BadStep : PySem.W.excIn K E_BadStep [.type "ValueError", .type "Exception", .type "BaseException", .type "object"] "ValueError.__new__" = true) (kE_BadStep : PySem.W.keepIn K (.ref E_BadStep) = true)
    (bE_BadStep : PySem.W.subIn K (.ref E_BadStep) (.type "BaseException") = some true) (tE_BadStep : PySem.W.typeIn K (.ref E_BadStep) = some (.type "type")) (dE_BadStep : PySem.W.hasDictIn K E_BadStep = true)
    (h1E_BadStep : PySem.W.findIn K (.ref E_BadStep) "__getattribute__" = some (some (.builtin "BaseException.__getattribute__"))) (h2E_BadStep : PySem.W.findIn K (.ref E_BadStep) "__getattr__" = some none) (h3E_BadStep : PySem.W.findIn K (.ref E_BadStep) "__class__" = some (some (.builtin "object.__class__"))) (h4E_BadStep : PySem.W.mroIn K E_BadStep (.type "object") = some true)
    (aE_BadMemory : PySem.W.nsIn K mainGlobals "BadMemory" = some (some (.ref E_BadMemory))) (xE_BadMemory : PySem.W.excIn K E_BadMemory [.type "ValueError", .type "Exception", .type "BaseException", .type "object"] "ValueError.__new__" = true) (kE_BadMemory : PySem.W.keepIn K (.ref E_BadMemory) = true)
    (bE_BadMemory : PySem.W.subIn K (.ref E_BadMemory) (.type "BaseException") = some true) (tE_BadMemory : PySem.W.typeIn K (.ref E_BadMemory) = some (.type "type")) (dE_BadMemory : PySem.W.hasDictIn K E_BadMemory = true)
    (h1E_BadMemory : PySem.W.findIn K (.ref E_BadMemory) "__getattribute__" = some (some (.builtin "BaseException.__getattribute__"))) (h2E_BadMemory : PySem.W.findIn K (.ref E_BadMemory) "__getattr__" = some none) (h3E_BadMemory : PySem.W.findIn K (.ref E_BadMemory) "__class__" = some (some (.builtin "object.__class__"))) (h4E_BadMemory : PySem.W.mroIn K E_BadMemory (.type "object") = some true)
    (sE_BrimfulError_BrimfulError : PySem.W.subIn K (.ref E_BrimfulError) (.ref E_BrimfulError) = some true)
    (sE_BrimfulError_BadTicket : PySem.W.subIn K (.ref E_BrimfulError) (.ref E_BadTicket) = some false)
    (sE_BrimfulError_Busy : PySem.W.subIn K (.ref E_BrimfulError) (.ref E_Busy) = some false)
    (sE_BrimfulError_BadStep : PySem.W.subIn K (.ref E_BrimfulError) (.ref E_BadStep) = some false)
    (sE_BrimfulError_BadMemory : PySem.W.subIn K (.ref E_BrimfulError) (.ref E_BadMemory) = some false)
    (sE_BadTicket_BrimfulError : PySem.W.subIn K (.ref E_BadTicket) (.ref E_BrimfulError) = some true)
    (sE_BadTicket_BadTicket : PySem.W.subIn K (.ref E_BadTicket) (.ref E_BadTicket) = some true)
    (sE_BadTicket_Busy : PySem.W.subIn K (.ref E_BadTicket) (.ref E_Busy) = some false)
    (sE_BadTicket_BadStep : PySem.W.subIn K (.ref E_BadTicket) (.ref E_BadStep) = some false)
    (sE_BadTicket_BadMemory : PySem.W.subIn K (.ref E_BadTicket) (.ref E_BadMemory) = some false)
    (sE_Busy_BrimfulError : PySem.W.subIn K (.ref E_Busy) (.ref E_BrimfulError) = some true)
    (sE_Busy_BadTicket : PySem.W.subIn K (.ref E_Busy) (.ref E_BadTicket) = some false)
    (sE_Busy_Busy : PySem.W.subIn K (.ref E_Busy) (.ref E_Busy) = some true)
    (sE_Busy_BadStep : PySem.W.subIn K (.ref E_Busy) (.ref E_BadStep) = some false)
    (sE_Busy_BadMemory : PySem.W.subIn K (.ref E_Busy) (.ref E_BadMemory) = some false)
    (sE_BadStep_BrimfulError : PySem.W.subIn K (.ref E_BadStep) (.ref E_BrimfulError) = some true)
    (sE_BadStep_BadTicket : PySem.W.subIn K (.ref E_BadStep) (.ref E_BadTicket) = some false)
    (sE_BadStep_Busy : PySem.W.subIn K (.ref E_BadStep) (.ref E_Busy) = some false)
    (sE_BadStep_BadStep : PySem.W.subIn K (.ref E_BadStep) (.ref E_BadStep) = some true)
    (sE_BadStep_BadMemory : PySem.W.subIn K (.ref E_BadStep) (.ref E_BadMemory) = some false)
    (sE_BadMemory_BrimfulError : PySem.W.subIn K (.ref E_BadMemory) (.ref E_BrimfulError) = some true)
    (sE_BadMemory_BadTicket : PySem.W.subIn K (.ref E_BadMemory) (.ref E_BadTicket) = some false)
    (sE_BadMemory_Busy : PySem.W.subIn K (.ref E_BadMemory) (.ref E_Busy) = some false)
    (sE_BadMemory_BadStep : PySem.W.subIn K (.ref E_BadMemory) (.ref E_BadStep) = some false)
    (sE_BadMemory_BadMemory : PySem.W.subIn K (.ref E_BadMemory) (.ref E_BadMemory) = some true)
    (a0 : PySem.W.nsIn K mainGlobals "is_below" = some (some (.ref f0)))
    (l0 : K.lookup f0 = some ⟨oc0, od0, .func (PySem.W.fnOf "is_below" "is_below" (defArgs s_is_below) (defBody s_is_below) (defScope s_is_below) .none kV0 dc0 pm0 an0 cd0 ct0), sl0⟩)
    (c0 : PySem.W.codeIn K cd0 "is_below" = true) (k0 : PySem.W.keepIn K (.ref f0) = true)
    (a1 : PySem.W.nsIn K mainGlobals "is_modulus" = some (some (.ref f1)))
    (l1 : K.lookup f1 = some ⟨oc1, od1, .func (PySem.W.fnOf "is_modulus" "is_modulus" (defArgs s_is_modulus) (defBody s_is_modulus) (defScope s_is_modulus) .none kV1 dc1 pm1 an1 cd1 ct1), sl1⟩)
    (c1 : PySem.W.codeIn K cd1 "is_modulus" = true) (k1 : PySem.W.keepIn K (.ref f1) = true)
    (a2 : PySem.W.nsIn K mainGlobals "are_numbers" = some (some (.ref f2)))
    (l2 : K.lookup f2 = some ⟨oc2, od2, .func (PySem.W.fnOf "are_numbers" "are_numbers" (defArgs s_are_numbers) (defBody s_are_numbers) (defScope s_are_numbers) .none kV2 dc2 pm2 an2 cd2 ct2), sl2⟩)
    (c2 : PySem.W.codeIn K cd2 "are_numbers" = true) (k2 : PySem.W.keepIn K (.ref f2) = true)
    (a3 : PySem.W.nsIn K mainGlobals "is_prime" = some (some (.ref f3)))
    (l3 : K.lookup f3 = some ⟨oc3, od3, .func (PySem.W.fnOf "is_prime" "is_prime" (defArgs s_is_prime) (defBody s_is_prime) (defScope s_is_prime) .none kV3 dc3 pm3 an3 cd3 ct3), sl3⟩)
    (c3 : PySem.W.codeIn K cd3 "is_prime" = true) (k3 : PySem.W.keepIn K (.ref f3) = true)
    (a4 : PySem.W.nsIn K mainGlobals "inverse_of" = some (some (.ref f4)))
    (l4 : K.lookup f4 = some ⟨oc4, od4, .func (PySem.W.fnOf "inverse_of" "inverse_of" (defArgs s_inverse_of) (defBody s_inverse_of) (defScope s_inverse_of) .none kV4 dc4 pm4 an4 cd4 ct4), sl4⟩)
    (c4 : PySem.W.codeIn K cd4 "inverse_of" = true) (k4 : PySem.W.keepIn K (.ref f4) = true)
    (a5 : PySem.W.nsIn K mainGlobals "interpolate" = some (some (.ref f5)))
    (l5 : K.lookup f5 = some ⟨oc5, od5, .func (PySem.W.fnOf "interpolate" "interpolate" (defArgs s_interpolate) (defBody s_interpolate) (defScope s_interpolate) .none kV5 dc5 pm5 an5 cd5 ct5), sl5⟩)
    (c5 : PySem.W.codeIn K cd5 "interpolate" = true) (k5 : PySem.W.keepIn K (.ref f5) = true)
    (a6 : PySem.W.nsIn K mainGlobals "_weighted" = some (some (.ref f6)))
    (l6 : K.lookup f6 = some ⟨oc6, od6, .func (PySem.W.fnOf "_weighted" "_weighted" (defArgs s_weighted) (defBody s_weighted) (defScope s_weighted) .none kV6 dc6 pm6 an6 cd6 ct6), sl6⟩)
    (c6 : PySem.W.codeIn K cd6 "_weighted" = true) (k6 : PySem.W.keepIn K (.ref f6) = true)
    (a7 : PySem.W.nsIn K mainGlobals "_shares" = some (some (.ref f7)))
    (l7 : K.lookup f7 = some ⟨oc7, od7, .func (PySem.W.fnOf "_shares" "_shares" (defArgs s_shares) (defBody s_shares) (defScope s_shares) .none kV7 dc7 pm7 an7 cd7 ct7), sl7⟩)
    (c7 : PySem.W.codeIn K cd7 "_shares" = true) (k7 : PySem.W.keepIn K (.ref f7) = true)
    (a8 : PySem.W.nsIn K mainGlobals "products_of_differences" = some (some (.ref f8)))
    (l8 : K.lookup f8 = some ⟨oc8, od8, .func (PySem.W.fnOf "products_of_differences" "products_of_differences" (defArgs s_products_of_differences) (defBody s_products_of_differences) (defScope s_products_of_differences) .none kV8 dc8 pm8 an8 cd8 ct8), sl8⟩)
    (c8 : PySem.W.codeIn K cd8 "products_of_differences" = true) (k8 : PySem.W.keepIn K (.ref f8) = true)
    (a9 : PySem.W.nsIn K mainGlobals "is_step" = some (some (.ref f9)))
    (l9 : K.lookup f9 = some ⟨oc9, od9, .func (PySem.W.fnOf "is_step" "is_step" (defArgs s_is_step) (defBody s_is_step) (defScope s_is_step) .none kV9 dc9 pm9 an9 cd9 ct9), sl9⟩)
    (c9 : PySem.W.codeIn K cd9 "is_step" = true) (k9 : PySem.W.keepIn K (.ref f9) = true)
    (a10 : PySem.W.nsIn K mainGlobals "_are_factors" = some (some (.ref f10)))
    (l10 : K.lookup f10 = some ⟨oc10, od10, .func (PySem.W.fnOf "_are_factors" "_are_factors" (defArgs s_are_factors) (defBody s_are_factors) (defScope s_are_factors) .none kV10 dc10 pm10 an10 cd10 ct10), sl10⟩)
    (c10 : PySem.W.codeIn K cd10 "_are_factors" = true) (k10 : PySem.W.keepIn K (.ref f10) = true)
    (a11 : PySem.W.nsIn K mainGlobals "_is_factor" = some (some (.ref f11)))
    (l11 : K.lookup f11 = some ⟨oc11, od11, .func (PySem.W.fnOf "_is_factor" "_is_factor" (defArgs s_is_factor) (defBody s_is_factor) (defScope s_is_factor) .none kV11 dc11 pm11 an11 cd11 ct11), sl11⟩)
    (c11 : PySem.W.codeIn K cd11 "_is_factor" = true) (k11 : PySem.W.keepIn K (.ref f11) = true)
    (a12 : PySem.W.nsIn K mainGlobals "_are_three_cells" = some (some (.ref f12)))
    (l12 : K.lookup f12 = some ⟨oc12, od12, .func (PySem.W.fnOf "_are_three_cells" "_are_three_cells" (defArgs s_are_three_cells) (defBody s_are_three_cells) (defScope s_are_three_cells) .none kV12 dc12 pm12 an12 cd12 ct12), sl12⟩)
    (c12 : PySem.W.codeIn K cd12 "_are_three_cells" = true) (k12 : PySem.W.keepIn K (.ref f12) = true)
    (a13 : PySem.W.nsIn K mainGlobals "_is_sign" = some (some (.ref f13)))
    (l13 : K.lookup f13 = some ⟨oc13, od13, .func (PySem.W.fnOf "_is_sign" "_is_sign" (defArgs s_is_sign) (defBody s_is_sign) (defScope s_is_sign) .none kV13 dc13 pm13 an13 cd13 ct13), sl13⟩)
    (c13 : PySem.W.codeIn K cd13 "_is_sign" = true) (k13 : PySem.W.keepIn K (.ref f13) = true)
    (a14 : PySem.W.nsIn K mainGlobals "is_table" = some (some (.ref f14)))
    (l14 : K.lookup f14 = some ⟨oc14, od14, .func (PySem.W.fnOf "is_table" "is_table" (defArgs s_is_table) (defBody s_is_table) (defScope s_is_table) .none kV14 dc14 pm14 an14 cd14 ct14), sl14⟩)
    (c14 : PySem.W.codeIn K cd14 "is_table" = true) (k14 : PySem.W.keepIn K (.ref f14) = true)
    (a15 : PySem.W.nsIn K mainGlobals "_is_row" = some (some (.ref f15)))
    (l15 : K.lookup f15 = some ⟨oc15, od15, .func (PySem.W.fnOf "_is_row" "_is_row" (defArgs s_is_row) (defBody s_is_row) (defScope s_is_row) .none kV15 dc15 pm15 an15 cd15 ct15), sl15⟩)
    (c15 : PySem.W.codeIn K cd15 "_is_row" = true) (k15 : PySem.W.keepIn K (.ref f15) = true)
    (a16 : PySem.W.nsIn K mainGlobals "changes" = some (some (.ref f16)))
    (l16 : K.lookup f16 = some ⟨oc16, od16, .func (PySem.W.fnOf "changes" "changes" (defArgs s_changes) (defBody s_changes) (defScope s_changes) .none kV16 dc16 pm16 an16 cd16 ct16), sl16⟩)
    (c16 : PySem.W.codeIn K cd16 "changes" = true) (k16 : PySem.W.keepIn K (.ref f16) = true)
    (a17 : PySem.W.nsIn K mainGlobals "performed" = some (some (.ref f17)))
    (l17 : K.lookup f17 = some ⟨oc17, od17, .func (PySem.W.fnOf "performed" "performed" (defArgs s_performed) (defBody s_performed) (defScope s_performed) .none kV17 dc17 pm17 an17 cd17 ct17), sl17⟩)
    (c17 : PySem.W.codeIn K cd17 "performed" = true) (k17 : PySem.W.keepIn K (.ref f17) = true)
    (a18 : PySem.W.nsIn K mainGlobals "_product_of" = some (some (.ref f18)))
    (l18 : K.lookup f18 = some ⟨oc18, od18, .func (PySem.W.fnOf "_product_of" "_product_of" (defArgs s_product_of) (defBody s_product_of) (defScope s_product_of) .none kV18 dc18 pm18 an18 cd18 ct18), sl18⟩)
    (c18 : PySem.W.codeIn K cd18 "_product_of" = true) (k18 : PySem.W.keepIn K (.ref f18) = true)
    (a19 : PySem.W.nsIn K mainGlobals "inverse_step" = some (some (.ref f19)))
    (l19 : K.lookup f19 = some ⟨oc19, od19, .func (PySem.W.fnOf "inverse_step" "inverse_step" (defArgs s_inverse_step) (defBody s_inverse_step) (defScope s_inverse_step) .none kV19 dc19 pm19 an19 cd19 ct19), sl19⟩)
    (c19 : PySem.W.codeIn K cd19 "inverse_step" = true) (k19 : PySem.W.keepIn K (.ref f19) = true)
    (a20 : PySem.W.nsIn K mainGlobals "_check_sizes" = some (some (.ref f20)))
    (l20 : K.lookup f20 = some ⟨oc20, od20, .func (PySem.W.fnOf "_check_sizes" "_check_sizes" (defArgs s_check_sizes) (defBody s_check_sizes) (defScope s_check_sizes) .none kV20 dc20 pm20 an20 cd20 ct20), sl20⟩)
    (c20 : PySem.W.codeIn K cd20 "_check_sizes" = true) (k20 : PySem.W.keepIn K (.ref f20) = true)
    (a21 : PySem.W.nsIn K mainGlobals "_check_steps" = some (some (.ref f21)))
    (l21 : K.lookup f21 = some ⟨oc21, od21, .func (PySem.W.fnOf "_check_steps" "_check_steps" (defArgs s_check_steps) (defBody s_check_steps) (defScope s_check_steps) .none kV21 dc21 pm21 an21 cd21 ct21), sl21⟩)
    (c21 : PySem.W.codeIn K cd21 "_check_steps" = true) (k21 : PySem.W.keepIn K (.ref f21) = true)
    (a22 : PySem.W.nsIn K mainGlobals "_is_memory" = some (some (.ref f22)))
    (l22 : K.lookup f22 = some ⟨oc22, od22, .func (PySem.W.fnOf "_is_memory" "_is_memory" (defArgs s_is_memory) (defBody s_is_memory) (defScope s_is_memory) .none kV22 dc22 pm22 an22 cd22 ct22), sl22⟩)
    (c22 : PySem.W.codeIn K cd22 "_is_memory" = true) (k22 : PySem.W.keepIn K (.ref f22) = true)
    (a23 : PySem.W.nsIn K mainGlobals "_are_places" = some (some (.ref f23)))
    (l23 : K.lookup f23 = some ⟨oc23, od23, .func (PySem.W.fnOf "_are_places" "_are_places" (defArgs s_are_places) (defBody s_are_places) (defScope s_are_places) .none kV23 dc23 pm23 an23 cd23 ct23), sl23⟩)
    (c23 : PySem.W.codeIn K cd23 "_are_places" = true) (k23 : PySem.W.keepIn K (.ref f23) = true)
    (a24 : PySem.W.nsIn K mainGlobals "_share_cells" = some (some (.ref f24)))
    (l24 : K.lookup f24 = some ⟨oc24, od24, .func (PySem.W.fnOf "_share_cells" "_share_cells" (defArgs s_share_cells) (defBody s_share_cells) (defScope s_share_cells) .none kV24 dc24 pm24 an24 cd24 ct24), sl24⟩)
    (c24 : PySem.W.codeIn K cd24 "_share_cells" = true) (k24 : PySem.W.keepIn K (.ref f24) = true)
    (a25 : PySem.W.nsIn K mainGlobals "_law_mixed" = some (some (.ref f25)))
    (l25 : K.lookup f25 = some ⟨oc25, od25, .func (PySem.W.fnOf "_law_mixed" "_law_mixed" (defArgs s_law_mixed) (defBody s_law_mixed) (defScope s_law_mixed) .none kV25 dc25 pm25 an25 cd25 ct25), sl25⟩)
    (c25 : PySem.W.codeIn K cd25 "_law_mixed" = true) (k25 : PySem.W.keepIn K (.ref f25) = true)
    (a26 : PySem.W.nsIn K mainGlobals "_law_numbers" = some (some (.ref f26)))
    (l26 : K.lookup f26 = some ⟨oc26, od26, .func (PySem.W.fnOf "_law_numbers" "_law_numbers" (defArgs s_law_numbers) (defBody s_law_numbers) (defScope s_law_numbers) .none kV26 dc26 pm26 an26 cd26 ct26), sl26⟩)
    (c26 : PySem.W.codeIn K cd26 "_law_numbers" = true) (k26 : PySem.W.keepIn K (.ref f26) = true)
    (a27 : PySem.W.nsIn K mainGlobals "_law_draw" = some (some (.ref f27)))
    (l27 : K.lookup f27 = some ⟨oc27, od27, .func (PySem.W.fnOf "_law_draw" "_law_draw" (defArgs s_law_draw) (defBody s_law_draw) (defScope s_law_draw) .none kV27 dc27 pm27 an27 cd27 ct27), sl27⟩)
    (c27 : PySem.W.codeIn K cd27 "_law_draw" = true) (k27 : PySem.W.keepIn K (.ref f27) = true)
    (a28 : PySem.W.nsIn K mainGlobals "_law_equal" = some (some (.ref f28)))
    (l28 : K.lookup f28 = some ⟨oc28, od28, .func (PySem.W.fnOf "_law_equal" "_law_equal" (defArgs s_law_equal) (defBody s_law_equal) (defScope s_law_equal) .none kV28 dc28 pm28 an28 cd28 ct28), sl28⟩)
    (c28 : PySem.W.codeIn K cd28 "_law_equal" = true) (k28 : PySem.W.keepIn K (.ref f28) = true)
    (a29 : PySem.W.nsIn K mainGlobals "_law_all_equal" = some (some (.ref f29)))
    (l29 : K.lookup f29 = some ⟨oc29, od29, .func (PySem.W.fnOf "_law_all_equal" "_law_all_equal" (defArgs s_law_all_equal) (defBody s_law_all_equal) (defScope s_law_all_equal) .none kV29 dc29 pm29 an29 cd29 ct29), sl29⟩)
    (c29 : PySem.W.codeIn K cd29 "_law_all_equal" = true) (k29 : PySem.W.keepIn K (.ref f29) = true)
    (a30 : PySem.W.nsIn K mainGlobals "_law_gcd" = some (some (.ref f30)))
    (l30 : K.lookup f30 = some ⟨oc30, od30, .func (PySem.W.fnOf "_law_gcd" "_law_gcd" (defArgs s_law_gcd) (defBody s_law_gcd) (defScope s_law_gcd) .none kV30 dc30 pm30 an30 cd30 ct30), sl30⟩)
    (c30 : PySem.W.codeIn K cd30 "_law_gcd" = true) (k30 : PySem.W.keepIn K (.ref f30) = true)
    (a31 : PySem.W.nsIn K mainGlobals "_law_factors" = some (some (.ref f31)))
    (l31 : K.lookup f31 = some ⟨oc31, od31, .func (PySem.W.fnOf "_law_factors" "_law_factors" (defArgs s_law_factors) (defBody s_law_factors) (defScope s_law_factors) .none kV31 dc31 pm31 an31 cd31 ct31), sl31⟩)
    (c31 : PySem.W.codeIn K cd31 "_law_factors" = true) (k31 : PySem.W.keepIn K (.ref f31) = true)
    (a32 : PySem.W.nsIn K mainGlobals "_law_number" = some (some (.ref f32)))
    (l32 : K.lookup f32 = some ⟨oc32, od32, .func (PySem.W.fnOf "_law_number" "_law_number" (defArgs s_law_number) (defBody s_law_number) (defScope s_law_number) .none kV32 dc32 pm32 an32 cd32 ct32), sl32⟩)
    (c32 : PySem.W.codeIn K cd32 "_law_number" = true) (k32 : PySem.W.keepIn K (.ref f32) = true)
    (a33 : PySem.W.nsIn K mainGlobals "_law_is_prime" = some (some (.ref f33)))
    (l33 : K.lookup f33 = some ⟨oc33, od33, .func (PySem.W.fnOf "_law_is_prime" "_law_is_prime" (defArgs s_law_is_prime) (defBody s_law_is_prime) (defScope s_law_is_prime) .none kV33 dc33 pm33 an33 cd33 ct33), sl33⟩)
    (c33 : PySem.W.codeIn K cd33 "_law_is_prime" = true) (k33 : PySem.W.keepIn K (.ref f33) = true)
    (a34 : PySem.W.nsIn K mainGlobals "_law_modulus" = some (some (.ref f34)))
    (l34 : K.lookup f34 = some ⟨oc34, od34, .func (PySem.W.fnOf "_law_modulus" "_law_modulus" (defArgs s_law_modulus) (defBody s_law_modulus) (defScope s_law_modulus) .none kV34 dc34 pm34 an34 cd34 ct34), sl34⟩)
    (c34 : PySem.W.codeIn K cd34 "_law_modulus" = true) (k34 : PySem.W.keepIn K (.ref f34) = true)
    (a35 : PySem.W.nsIn K mainGlobals "_law_look" = some (some (.ref f35)))
    (l35 : K.lookup f35 = some ⟨oc35, od35, .func (PySem.W.fnOf "_law_look" "_law_look" (defArgs s_law_look) (defBody s_law_look) (defScope s_law_look) .none kV35 dc35 pm35 an35 cd35 ct35), sl35⟩)
    (c35 : PySem.W.codeIn K cd35 "_law_look" = true) (k35 : PySem.W.keepIn K (.ref f35) = true)
    (a36 : PySem.W.nsIn K mainGlobals "_law_step" = some (some (.ref f36)))
    (l36 : K.lookup f36 = some ⟨oc36, od36, .func (PySem.W.fnOf "_law_step" "_law_step" (defArgs s_law_step) (defBody s_law_step) (defScope s_law_step) .none kV36 dc36 pm36 an36 cd36 ct36), sl36⟩)
    (c36 : PySem.W.codeIn K cd36 "_law_step" = true) (k36 : PySem.W.keepIn K (.ref f36) = true)
    (a37 : PySem.W.nsIn K mainGlobals "_law_places" = some (some (.ref f37)))
    (l37 : K.lookup f37 = some ⟨oc37, od37, .func (PySem.W.fnOf "_law_places" "_law_places" (defArgs s_law_places) (defBody s_law_places) (defScope s_law_places) .none kV37 dc37 pm37 an37 cd37 ct37), sl37⟩)
    (c37 : PySem.W.codeIn K cd37 "_law_places" = true) (k37 : PySem.W.keepIn K (.ref f37) = true)
    (a38 : PySem.W.nsIn K mainGlobals "_law_loan" = some (some (.ref f38)))
    (l38 : K.lookup f38 = some ⟨oc38, od38, .func (PySem.W.fnOf "_law_loan" "_law_loan" (defArgs s_law_loan) (defBody s_law_loan) (defScope s_law_loan) .none kV38 dc38 pm38 an38 cd38 ct38), sl38⟩)
    (c38 : PySem.W.codeIn K cd38 "_law_loan" = true) (k38 : PySem.W.keepIn K (.ref f38) = true)
    (a39 : PySem.W.nsIn K mainGlobals "_law_size" = some (some (.ref f39)))
    (l39 : K.lookup f39 = some ⟨oc39, od39, .func (PySem.W.fnOf "_law_size" "_law_size" (defArgs s_law_size) (defBody s_law_size) (defScope s_law_size) .none kV39 dc39 pm39 an39 cd39 ct39), sl39⟩)
    (c39 : PySem.W.codeIn K cd39 "_law_size" = true) (k39 : PySem.W.keepIn K (.ref f39) = true)
    (a40 : PySem.W.nsIn K mainGlobals "_law_bad" = some (some (.ref f40)))
    (l40 : K.lookup f40 = some ⟨oc40, od40, .func (PySem.W.fnOf "_law_bad" "_law_bad" (defArgs s_law_bad) (defBody s_law_bad) (defScope s_law_bad) .none kV40 dc40 pm40 an40 cd40 ct40), sl40⟩)
    (c40 : PySem.W.codeIn K cd40 "_law_bad" = true) (k40 : PySem.W.keepIn K (.ref f40) = true)
    (a41 : PySem.W.nsIn K mainGlobals "_law_with" = some (some (.ref f41)))
    (l41 : K.lookup f41 = some ⟨oc41, od41, .func (PySem.W.fnOf "_law_with" "_law_with" (defArgs s_law_with) (defBody s_law_with) (defScope s_law_with) .none kV41 dc41 pm41 an41 cd41 ct41), sl41⟩)
    (c41 : PySem.W.codeIn K cd41 "_law_with" = true) (k41 : PySem.W.keepIn K (.ref f41) = true)
    (a42 : PySem.W.nsIn K mainGlobals "_law_spoilt" = some (some (.ref f42)))
    (l42 : K.lookup f42 = some ⟨oc42, od42, .func (PySem.W.fnOf "_law_spoilt" "_law_spoilt" (defArgs s_law_spoilt) (defBody s_law_spoilt) (defScope s_law_spoilt) .none kV42 dc42 pm42 an42 cd42 ct42), sl42⟩)
    (c42 : PySem.W.codeIn K cd42 "_law_spoilt" = true) (k42 : PySem.W.keepIn K (.ref f42) = true)
    (a43 : PySem.W.nsIn K mainGlobals "_law_lent" = some (some (.ref f43)))
    (l43 : K.lookup f43 = some ⟨oc43, od43, .func (PySem.W.fnOf "_law_lent" "_law_lent" (defArgs s_law_lent) (defBody s_law_lent) (defScope s_law_lent) .none kV43 dc43 pm43 an43 cd43 ct43), sl43⟩)
    (c43 : PySem.W.codeIn K cd43 "_law_lent" = true) (k43 : PySem.W.keepIn K (.ref f43) = true)
    (a44 : PySem.W.nsIn K mainGlobals "_law_is_ticket" = some (some (.ref f44)))
    (l44 : K.lookup f44 = some ⟨oc44, od44, .func (PySem.W.fnOf "_law_is_ticket" "_law_is_ticket" (defArgs s_law_is_ticket) (defBody s_law_is_ticket) (defScope s_law_is_ticket) .none kV44 dc44 pm44 an44 cd44 ct44), sl44⟩)
    (c44 : PySem.W.codeIn K cd44 "_law_is_ticket" = true) (k44 : PySem.W.keepIn K (.ref f44) = true)
    (a45 : PySem.W.nsIn K mainGlobals "_law_is_memory" = some (some (.ref f45)))
    (l45 : K.lookup f45 = some ⟨oc45, od45, .func (PySem.W.fnOf "_law_is_memory" "_law_is_memory" (defArgs s_law_is_memory) (defBody s_law_is_memory) (defScope s_law_is_memory) .none kV45 dc45 pm45 an45 cd45 ct45), sl45⟩)
    (c45 : PySem.W.codeIn K cd45 "_law_is_memory" = true) (k45 : PySem.W.keepIn K (.ref f45) = true)
    (a46 : PySem.W.nsIn K mainGlobals "_law_no_memories" = some (some (.ref f46)))
    (l46 : K.lookup f46 = some ⟨oc46, od46, .func (PySem.W.fnOf "_law_no_memories" "_law_no_memories" (defArgs s_law_no_memories) (defBody s_law_no_memories) (defScope s_law_no_memories) .none kV46 dc46 pm46 an46 cd46 ct46), sl46⟩)
    (c46 : PySem.W.codeIn K cd46 "_law_no_memories" = true) (k46 : PySem.W.keepIn K (.ref f46) = true)
    (a47 : PySem.W.nsIn K mainGlobals "law" = some (some (.ref f47)))
    (l47 : K.lookup f47 = some ⟨oc47, od47, .func (PySem.W.fnOf "law" "law" (defArgs s_law) (defBody s_law) (defScope s_law) .none kV47 dc47 pm47 an47 cd47 ct47), sl47⟩)
    (c47 : PySem.W.codeIn K cd47 "law" = true) (k47 : PySem.W.keepIn K (.ref f47) = true)
    (a48 : PySem.W.findIn K (.ref C_Program) "__init__" = some (some (.ref f48))) (i48 : PySem.W.isFn K (.ref f48) = true)
    (l48 : K.lookup f48 = some ⟨oc48, od48, .func (PySem.W.fnOf "__init__" "Program.__init__" (defArgs s_Program___init) (defBody s_Program___init) (defScope s_Program___init) .none kV48 dc48 pm48 an48 cd48 ct48), sl48⟩)
    (c48 : PySem.W.codeIn K cd48 "Program.__init__" = true) (k48 : PySem.W.keepIn K (.ref f48) = true)
    (a49 : PySem.W.findIn K (.ref C_Loan) "__init__" = some (some (.ref f49))) (i49 : PySem.W.isFn K (.ref f49) = true)
    (l49 : K.lookup f49 = some ⟨oc49, od49, .func (PySem.W.fnOf "__init__" "Loan.__init__" (defArgs s_Loan___init) (defBody s_Loan___init) (defScope s_Loan___init) .none kV49 dc49 pm49 an49 cd49 ct49), sl49⟩)
    (c49 : PySem.W.codeIn K cd49 "Loan.__init__" = true) (k49 : PySem.W.keepIn K (.ref f49) = true)
    (a50 : PySem.W.findIn K (.ref C_Vault) "__init__" = some (some (.ref f50))) (i50 : PySem.W.isFn K (.ref f50) = true)
    (l50 : K.lookup f50 = some ⟨oc50, od50, .func (PySem.W.fnOf "__init__" "Vault.__init__" (defArgs s_Vault___init) (defBody s_Vault___init) (defScope s_Vault___init) .none kV50 dc50 pm50 an50 cd50 ct50), sl50⟩)
    (c50 : PySem.W.codeIn K cd50 "Vault.__init__" = true) (k50 : PySem.W.keepIn K (.ref f50) = true)
    (a51 : PySem.W.findIn K (.ref C_Vault) "memory" = some (some (.ref pp51))) (pg51 : PySem.W.specialIn K (.ref pp51) "__get__" = some (some (.builtin "property.__get__"))) (pt51 : PySem.W.takesIn K (.ref pp51) = some true) (pr51 : PySem.W.recIn K pp51 "property" = some (.ref f51 :: rs51))
    (l51 : K.lookup f51 = some ⟨oc51, od51, .func (PySem.W.fnOf "memory" "Vault.memory" (defArgs s_Vault_memory) (defBody s_Vault_memory) (defScope s_Vault_memory) .none kV51 dc51 pm51 an51 cd51 ct51), sl51⟩)
    (c51 : PySem.W.codeIn K cd51 "Vault.memory" = true) (k51 : PySem.W.keepIn K (.ref f51) = true)
    (a52 : PySem.W.findIn K (.ref C_Vault) "lend" = some (some (.ref f52))) (i52 : PySem.W.isFn K (.ref f52) = true)
    (l52 : K.lookup f52 = some ⟨oc52, od52, .func (PySem.W.fnOf "lend" "Vault.lend" (defArgs s_Vault_lend) (defBody s_Vault_lend) (defScope s_Vault_lend) .none kV52 dc52 pm52 an52 cd52 ct52), sl52⟩)
    (c52 : PySem.W.codeIn K cd52 "Vault.lend" = true) (k52 : PySem.W.keepIn K (.ref f52) = true)
    (a53 : PySem.W.findIn K (.ref C_Vault) "advance" = some (some (.ref f53))) (i53 : PySem.W.isFn K (.ref f53) = true)
    (l53 : K.lookup f53 = some ⟨oc53, od53, .func (PySem.W.fnOf "advance" "Vault.advance" (defArgs s_Vault_advance) (defBody s_Vault_advance) (defScope s_Vault_advance) .none kV53 dc53 pm53 an53 cd53 ct53), sl53⟩)
    (c53 : PySem.W.codeIn K cd53 "Vault.advance" = true) (k53 : PySem.W.keepIn K (.ref f53) = true)
    (a54 : PySem.W.findIn K (.ref C_Vault) "answer" = some (some (.ref f54))) (i54 : PySem.W.isFn K (.ref f54) = true)
    (l54 : K.lookup f54 = some ⟨oc54, od54, .func (PySem.W.fnOf "answer" "Vault.answer" (defArgs s_Vault_answer) (defBody s_Vault_answer) (defScope s_Vault_answer) .none kV54 dc54 pm54 an54 cd54 ct54), sl54⟩)
    (c54 : PySem.W.codeIn K cd54 "Vault.answer" = true) (k54 : PySem.W.keepIn K (.ref f54) = true)
    (a55 : PySem.W.findIn K (.ref C_Vault) "recall" = some (some (.ref f55))) (i55 : PySem.W.isFn K (.ref f55) = true)
    (l55 : K.lookup f55 = some ⟨oc55, od55, .func (PySem.W.fnOf "recall" "Vault.recall" (defArgs s_Vault_recall) (defBody s_Vault_recall) (defScope s_Vault_recall) .none kV55 dc55 pm55 an55 cd55 ct55), sl55⟩)
    (c55 : PySem.W.codeIn K cd55 "Vault.recall" = true) (k55 : PySem.W.keepIn K (.ref f55) = true)
    (a56 : PySem.W.findIn K (.ref C_Vault) "open_loans" = some (some (.ref f56))) (i56 : PySem.W.isFn K (.ref f56) = true)
    (l56 : K.lookup f56 = some ⟨oc56, od56, .func (PySem.W.fnOf "open_loans" "Vault.open_loans" (defArgs s_Vault_open_loans) (defBody s_Vault_open_loans) (defScope s_Vault_open_loans) .none kV56 dc56 pm56 an56 cd56 ct56), sl56⟩)
    (c56 : PySem.W.codeIn K cd56 "Vault.open_loans" = true) (k56 : PySem.W.keepIn K (.ref f56) = true)
    (a57 : PySem.W.findIn K (.ref C_Vault) "_free_loan" = some (some (.ref f57))) (i57 : PySem.W.isFn K (.ref f57) = true)
    (l57 : K.lookup f57 = some ⟨oc57, od57, .func (PySem.W.fnOf "_free_loan" "Vault._free_loan" (defArgs s_Vault__free_loan) (defBody s_Vault__free_loan) (defScope s_Vault__free_loan) .none kV57 dc57 pm57 an57 cd57 ct57), sl57⟩)
    (c57 : PySem.W.codeIn K cd57 "Vault._free_loan" = true) (k57 : PySem.W.keepIn K (.ref f57) = true)
    (a58 : PySem.W.findIn K (.ref C_Vault) "_perform" = some (some (.ref f58))) (i58 : PySem.W.isFn K (.ref f58) = true)
    (l58 : K.lookup f58 = some ⟨oc58, od58, .func (PySem.W.fnOf "_perform" "Vault._perform" (defArgs s_Vault__perform) (defBody s_Vault__perform) (defScope s_Vault__perform) .none kV58 dc58 pm58 an58 cd58 ct58), sl58⟩)
    (c58 : PySem.W.codeIn K cd58 "Vault._perform" = true) (k58 : PySem.W.keepIn K (.ref f58) = true)
    (n_Program_modulus : PySem.W.findIn K (.ref C_Program) "modulus" = some none)
    (n_Program_cells : PySem.W.findIn K (.ref C_Program) "cells" = some none)
    (n_Program_inputs : PySem.W.findIn K (.ref C_Program) "inputs" = some none)
    (n_Program_steps : PySem.W.findIn K (.ref C_Program) "steps" = some none)
    (ih_Program : PySem.W.findIn K (.ref C_Program) "__class__" = some (some (.builtin "object.__class__"))) (im_Program : PySem.W.mroIn K C_Program (.type "object") = some true) (it_Program : PySem.W.typeIn K (.ref C_Program) = some (.type "type")) (is_Program : PySem.W.subIn K (.ref C_Program) (.ref C_Program) = some true) (sf_Program : PySem.W.selfFirst K C_Program = true)
    (n_Loan_steps : PySem.W.findIn K (.ref C_Loan) "steps" = some none)
    (n_Loan_places : PySem.W.findIn K (.ref C_Loan) "places" = some none)
    (n_Loan_given : PySem.W.findIn K (.ref C_Loan) "given" = some none)
    (n_Loan_first : PySem.W.findIn K (.ref C_Loan) "first" = some none)
    (n_Loan_done : PySem.W.findIn K (.ref C_Loan) "done" = some none)
    (n_Vault__memory : PySem.W.findIn K (.ref C_Vault) "_memory" = some none)
    (n_Vault__modulus : PySem.W.findIn K (.ref C_Vault) "_modulus" = some none)
    (n_Vault__loans : PySem.W.findIn K (.ref C_Vault) "_loans" = some none)
    (n_Vault__next_ticket : PySem.W.findIn K (.ref C_Vault) "_next_ticket" = some none)
    (z_all : PySem.W.nsIn K mainGlobals "all" = some none)
    (z_any : PySem.W.nsIn K mainGlobals "any" = some none)
    (z_bool : PySem.W.nsIn K mainGlobals "bool" = some none)
    (z_enumerate : PySem.W.nsIn K mainGlobals "enumerate" = some none)
    (z_int : PySem.W.nsIn K mainGlobals "int" = some none)
    (z_isinstance : PySem.W.nsIn K mainGlobals "isinstance" = some none)
    (z_len : PySem.W.nsIn K mainGlobals "len" = some none)
    (z_list : PySem.W.nsIn K mainGlobals "list" = some none)
    (z_max : PySem.W.nsIn K mainGlobals "max" = some none)
    (z_min : PySem.W.nsIn K mainGlobals "min" = some none)
    (z_property : PySem.W.nsIn K mainGlobals "property" = some none)
    (z_range : PySem.W.nsIn K mainGlobals "range" = some none)
    (z_set : PySem.W.nsIn K mainGlobals "set" = some none)
    (z_sorted : PySem.W.nsIn K mainGlobals "sorted" = some none)
    (z_str : PySem.W.nsIn K mainGlobals "str" = some none)
    (z_sum : PySem.W.nsIn K mainGlobals "sum" = some none)
    (z_tuple : PySem.W.nsIn K mainGlobals "tuple" = some none)
    (z_zip : PySem.W.nsIn K mainGlobals "zip" = some none)
    (z_gcd : PySem.W.nsIn K mainGlobals "gcd" = some (some (.builtin "math.gcd")))
    (z_isqrt : PySem.W.nsIn K mainGlobals "isqrt" = some (some (.builtin "math.isqrt")))
    (z_GREATEST_MODULUS : PySem.W.nsIn K mainGlobals "GREATEST_MODULUS" = some (some (.int 1000000000 t_GREATEST_MODULUS)))
    (z_MOST_CELLS_programs : PySem.W.nsIn K mainGlobals "MOST_CELLS_programs" = some (some (.int 60 t_MOST_CELLS_programs)))
    (z_MOST_CELLS_vault : PySem.W.nsIn K mainGlobals "MOST_CELLS_vault" = some (some (.int 200 t_MOST_CELLS_vault)))
    (z_MOST_FACTORS : PySem.W.nsIn K mainGlobals "MOST_FACTORS" = some (some (.int 3 t_MOST_FACTORS)))
    (z_MOST_INPUTS : PySem.W.nsIn K mainGlobals "MOST_INPUTS" = some (some (.int 60 t_MOST_INPUTS)))
    (z_MOST_STEPS : PySem.W.nsIn K mainGlobals "MOST_STEPS" = some (some (.int 20000 t_MOST_STEPS)))
    : ∃ fd : FuncData, (∀ (s : Shared) (v : Value), BindsTo s fd ⟨[v], []⟩ [("script", v)]) ∧ ∀ base : Heap, K.In base → base.Ns mainGlobals mg → FnOk l.prog w K mg base CX0 10 fa fd ["script"] (sp_law K) := by
  have e := hfa.symm.trans (PySem.W.mg_of X G a47)
  cases e
  have F0 := fun_mk (st := s_is_below) l0 c0 k0
  have b0 := F0.binds (ps := ["value", "bound"]) fun _ _ _ _ _ _ us hl => match us, hl with | [_, _], _ => rfl
  have F1 := fun_mk (st := s_is_modulus) l1 c1 k1
  have b1 := F1.binds (ps := ["value"]) fun _ _ _ _ _ _ us hl => match us, hl with | [_], _ => rfl
  have F2 := fun_mk (st := s_are_numbers) l2 c2 k2
  have b2 := F2.binds (ps := ["values", "many", "modulus"]) fun _ _ _ _ _ _ us hl => match us, hl with | [_, _, _], _ => rfl
  have F3 := fun_mk (st := s_is_prime) l3 c3 k3
  have b3 := F3.binds (ps := ["n"]) fun _ _ _ _ _ _ us hl => match us, hl with | [_], _ => rfl
  have F4 := fun_mk (st := s_inverse_of) l4 c4 k4
  have b4 := F4.binds (ps := ["n", "modulus"]) fun _ _ _ _ _ _ us hl => match us, hl with | [_, _], _ => rfl
  have F5 := fun_mk (st := s_interpolate) l5 c5 k5
  have b5 := F5.binds (ps := ["table", "prime", "x", "y"]) fun _ _ _ _ _ _ us hl => match us, hl with | [_, _, _, _], _ => rfl
  have F6 := fun_mk (st := s_weighted) l6 c6 k6
  have b6 := F6.binds (ps := ["row", "shares"]) fun _ _ _ _ _ _ us hl => match us, hl with | [_, _], _ => rfl
  have F7 := fun_mk (st := s_shares) l7 c7 k7
  have b7 := F7.binds (ps := ["size", "prime", "x"]) fun _ _ _ _ _ _ us hl => match us, hl with | [_, _, _], _ => rfl
  have F8 := fun_mk (st := s_products_of_differences) l8 c8 k8
  have b8 := F8.binds (ps := ["size", "prime"]) fun _ _ _ _ _ _ us hl => match us, hl with | [_, _], _ => rfl
  have F9 := fun_mk (st := s_is_step) l9 c9 k9
  have b9 := F9.binds (ps := ["step", "modulus", "cells", "inputs"]) fun _ _ _ _ _ _ us hl => match us, hl with | [_, _, _, _], _ => rfl
  have F10 := fun_mk (st := s_are_factors) l10 c10 k10
  have b10 := F10.binds (ps := ["factors", "target", "cells", "inputs"]) fun _ _ _ _ _ _ us hl => match us, hl with | [_, _, _, _], _ => rfl
  have F11 := fun_mk (st := s_is_factor) l11 c11 k11
  have b11 := F11.binds (ps := ["factor", "target", "cells", "inputs"]) fun _ _ _ _ _ _ us hl => match us, hl with | [_, _, _, _], _ => rfl
  have F12 := fun_mk (st := s_are_three_cells) l12 c12 k12
  have b12 := F12.binds (ps := ["target", "a", "b", "cells"]) fun _ _ _ _ _ _ us hl => match us, hl with | [_, _, _, _], _ => rfl
  have F13 := fun_mk (st := s_is_sign) l13 c13 k13
  have b13 := F13.binds (ps := ["sign", "modulus"]) fun _ _ _ _ _ _ us hl => match us, hl with | [_, _], _ => rfl
  have F14 := fun_mk (st := s_is_table) l14 c14 k14
  have b14 := F14.binds (ps := ["table", "modulus"]) fun _ _ _ _ _ _ us hl => match us, hl with | [_, _], _ => rfl
  have F15 := fun_mk (st := s_is_row) l15 c15 k15
  have b15 := F15.binds (ps := ["row", "size", "modulus"]) fun _ _ _ _ _ _ us hl => match us, hl with | [_, _, _], _ => rfl
  have F16 := fun_mk (st := s_changes) l16 c16 k16
  have b16 := F16.binds (ps := ["step", "memory", "given", "modulus"]) fun _ _ _ _ _ _ us hl => match us, hl with | [_, _, _, _], _ => rfl
  have F17 := fun_mk (st := s_performed) l17 c17 k17
  have b17 := F17.binds (ps := ["steps", "memory", "given", "modulus"]) fun _ _ _ _ _ _ us hl => match us, hl with | [_, _, _, _], _ => rfl
  have F18 := fun_mk (st := s_product_of) l18 c18 k18
  have b18 := F18.binds (ps := ["factors", "memory", "given", "modulus"]) fun _ _ _ _ _ _ us hl => match us, hl with | [_, _, _, _], _ => rfl
  have F19 := fun_mk (st := s_inverse_step) l19 c19 k19
  have b19 := F19.binds (ps := ["step", "modulus"]) fun _ _ _ _ _ _ us hl => match us, hl with | [_, _], _ => rfl
  have F20 := fun_mk (st := s_check_sizes) l20 c20 k20
  have b20 := F20.binds (ps := ["modulus", "cells", "inputs"]) fun _ _ _ _ _ _ us hl => match us, hl with | [_, _, _], _ => rfl
  have F21 := fun_mk (st := s_check_steps) l21 c21 k21
  have b21 := F21.binds (ps := ["steps", "modulus", "cells", "inputs"]) fun _ _ _ _ _ _ us hl => match us, hl with | [_, _, _, _], _ => rfl
  have F22 := fun_mk (st := s_is_memory) l22 c22 k22
  have b22 := F22.binds (ps := ["memory", "modulus"]) fun _ _ _ _ _ _ us hl => match us, hl with | [_, _], _ => rfl
  have F23 := fun_mk (st := s_are_places) l23 c23 k23
  have b23 := F23.binds (ps := ["places", "many", "cells"]) fun _ _ _ _ _ _ us hl => match us, hl with | [_, _, _], _ => rfl
  have F24 := fun_mk (st := s_share_cells) l24 c24 k24
  have b24 := F24.binds (ps := ["loan", "other"]) fun _ _ _ _ _ _ us hl => match us, hl with | [_, _], _ => rfl
  have F25 := fun_mk (st := s_law_mixed) l25 c25 k25
  have b25 := F25.binds (ps := ["number", "k"]) fun _ _ _ _ _ _ us hl => match us, hl with | [_, _], _ => rfl
  have F26 := fun_mk (st := s_law_numbers) l26 c26 k26
  have b26 := F26.binds (ps := ["script"]) fun _ _ _ _ _ _ us hl => match us, hl with | [_], _ => rfl
  have F27 := fun_mk (st := s_law_draw) l27 c27 k27
  have b27 := F27.binds (ps := ["draws"]) fun _ _ _ _ _ _ us hl => match us, hl with | [_], _ => rfl
  have F28 := fun_mk (st := s_law_equal) l28 c28 k28
  have b28 := F28.binds (ps := ["actual", "due"]) fun _ _ _ _ _ _ us hl => match us, hl with | [_, _], _ => rfl
  have F29 := fun_mk (st := s_law_all_equal) l29 c29 k29
  have b29 := F29.binds (ps := ["actual", "due"]) fun _ _ _ _ _ _ us hl => match us, hl with | [_, _], _ => rfl
  have F30 := fun_mk (st := s_law_gcd) l30 c30 k30
  have b30 := F30.binds (ps := ["a", "b"]) fun _ _ _ _ _ _ us hl => match us, hl with | [_, _], _ => rfl
  have F31 := fun_mk (st := s_law_factors) l31 c31 k31
  have b31 := F31.binds (ps := ["draws", "cells", "inputs", "target"]) fun _ _ _ _ _ _ us hl => match us, hl with | [_, _, _, _], _ => rfl
  have F32 := fun_mk (st := s_law_number) l32 c32 k32
  have b32 := F32.binds (ps := ["draws", "modulus"]) fun _ _ _ _ _ _ us hl => match us, hl with | [_, _], _ => rfl
  have F33 := fun_mk (st := s_law_is_prime) l33 c33 k33
  have b33 := F33.binds (ps := ["number"]) fun _ _ _ _ _ _ us hl => match us, hl with | [_], _ => rfl
  have F34 := fun_mk (st := s_law_modulus) l34 c34 k34
  have b34 := F34.binds (ps := ["draws"]) fun _ _ _ _ _ _ us hl => match us, hl with | [_], _ => rfl
  have F35 := fun_mk (st := s_law_look) l35 c35 k35
  have b35 := F35.binds (ps := ["draws", "modulus", "cells", "target"]) fun _ _ _ _ _ _ us hl => match us, hl with | [_, _, _, _], _ => rfl
  have F36 := fun_mk (st := s_law_step) l36 c36 k36
  have b36 := F36.binds (ps := ["draws", "modulus", "cells", "inputs"]) fun _ _ _ _ _ _ us hl => match us, hl with | [_, _, _, _], _ => rfl
  have F37 := fun_mk (st := s_law_places) l37 c37 k37
  have b37 := F37.binds (ps := ["draws", "size", "cells"]) fun _ _ _ _ _ _ us hl => match us, hl with | [_, _, _], _ => rfl
  have F38 := fun_mk (st := s_law_loan) l38 c38 k38
  have b38 := F38.binds (ps := ["draws", "modulus", "size"]) fun _ _ _ _ _ _ us hl => match us, hl with | [_, _, _], _ => rfl
  have F39 := fun_mk (st := s_law_size) l39 c39 k39
  have b39 := F39.binds (ps := ["draws"]) fun _ _ _ _ _ _ us hl => match us, hl with | [_], _ => rfl
  have F40 := fun_mk (st := s_law_bad) l40 c40 k40
  have b40 := F40.binds (ps := ["draws", "high"]) fun _ _ _ _ _ _ us hl => match us, hl with | [_, _], _ => rfl
  have F41 := fun_mk (st := s_law_with) l41 c41 k41
  have b41 := F41.binds (ps := ["draws", "row", "bad"]) fun _ _ _ _ _ _ us hl => match us, hl with | [_, _, _], _ => rfl
  have F42 := fun_mk (st := s_law_spoilt) l42 c42 k42
  have b42 := F42.binds (ps := ["draws", "loan", "modulus", "size"]) fun _ _ _ _ _ _ us hl => match us, hl with | [_, _, _, _], _ => rfl
  have F43 := fun_mk (st := s_law_lent) l43 c43 k43
  have b43 := F43.binds (ps := ["vault", "program", "places", "given"]) fun _ _ _ _ _ _ us hl => match us, hl with | [_, _, _, _], _ => rfl
  have F44 := fun_mk (st := s_law_is_ticket) l44 c44 k44
  have b44 := F44.binds (ps := ["vault", "ticket", "pick"]) fun _ _ _ _ _ _ us hl => match us, hl with | [_, _, _], _ => rfl
  have F45 := fun_mk (st := s_law_is_memory) l45 c45 k45
  have b45 := F45.binds (ps := ["memory", "modulus"]) fun _ _ _ _ _ _ us hl => match us, hl with | [_, _], _ => rfl
  have F46 := fun_mk (st := s_law_no_memories) l46 c46 k46
  have b46 := F46.binds (ps := ["draws", "memory", "modulus"]) fun _ _ _ _ _ _ us hl => match us, hl with | [_, _, _], _ => rfl
  have F47 := fun_mk (st := s_law) l47 c47 k47
  have b47 := F47.binds (ps := ["script"]) fun _ _ _ _ _ _ us hl => match us, hl with | [_], _ => rfl
  have F48 := fun_mk (st := s_Program___init) l48 c48 k48
  have b48 := F48.binds (ps := ["self", "modulus", "cells", "inputs", "steps"]) fun _ _ _ _ _ _ us hl => match us, hl with | [_, _, _, _, _], _ => rfl
  have F49 := fun_mk (st := s_Loan___init) l49 c49 k49
  have b49 := F49.binds (ps := ["self", "program", "places", "given", "first"]) fun _ _ _ _ _ _ us hl => match us, hl with | [_, _, _, _, _], _ => rfl
  have F50 := fun_mk (st := s_Vault___init) l50 c50 k50
  have b50 := F50.binds (ps := ["self", "memory", "modulus"]) fun _ _ _ _ _ _ us hl => match us, hl with | [_, _, _], _ => rfl
  have F51 := fun_mk (st := s_Vault_memory) l51 c51 k51
  have b51 := F51.binds (ps := ["self"]) fun _ _ _ _ _ _ us hl => match us, hl with | [_], _ => rfl
  have F52 := fun_mk (st := s_Vault_lend) l52 c52 k52
  have b52 := F52.binds (ps := ["self", "program", "places", "given"]) fun _ _ _ _ _ _ us hl => match us, hl with | [_, _, _, _], _ => rfl
  have F53 := fun_mk (st := s_Vault_advance) l53 c53 k53
  have b53 := F53.binds (ps := ["self", "ticket", "most"]) fun _ _ _ _ _ _ us hl => match us, hl with | [_, _, _], _ => rfl
  have F54 := fun_mk (st := s_Vault_answer) l54 c54 k54
  have b54 := F54.binds (ps := ["self", "ticket"]) fun _ _ _ _ _ _ us hl => match us, hl with | [_, _], _ => rfl
  have F55 := fun_mk (st := s_Vault_recall) l55 c55 k55
  have b55 := F55.binds (ps := ["self", "ticket"]) fun _ _ _ _ _ _ us hl => match us, hl with | [_, _], _ => rfl
  have F56 := fun_mk (st := s_Vault_open_loans) l56 c56 k56
  have b56 := F56.binds (ps := ["self"]) fun _ _ _ _ _ _ us hl => match us, hl with | [_], _ => rfl
  have F57 := fun_mk (st := s_Vault__free_loan) l57 c57 k57
  have b57 := F57.binds (ps := ["self", "ticket"]) fun _ _ _ _ _ _ us hl => match us, hl with | [_, _], _ => rfl
  have F58 := fun_mk (st := s_Vault__perform) l58 c58 k58
  have b58 := F58.binds (ps := ["self", "loan", "steps"]) fun _ _ _ _ _ _ us hl => match us, hl with | [_, _, _], _ => rfl
  exact ⟨PySem.W.fnOf "law" "law" (defArgs s_law) (defBody s_law) (defScope s_law) .none kV47 dc47 pm47 an47 cd47 ct47, fun s v => .of_eq rfl, fun base _ _ => ok_law (⟨_, _, F0, b0, PySem.W.mg_of X G a0, _, _, F1, b1, PySem.W.mg_of X G a1, _, _, F2, b2, PySem.W.mg_of X G a2, _, _, F3, b3, PySem.W.mg_of X G a3, _, _, F4, b4, PySem.W.mg_of X G a4, _, _, F5, b5, PySem.W.mg_of X G a5, _, _, F6, b6, PySem.W.mg_of X G a6, _, _, F7, b7, PySem.W.mg_of X G a7, _, _, F8, b8, PySem.W.mg_of X G a8, _, _, F9, b9, PySem.W.mg_of X G a9, _, _, F10, b10, PySem.W.mg_of X G a10, _, _, F11, b11, PySem.W.mg_of X G a11, _, _, F12, b12, PySem.W.mg_of X G a12, _, _, F13, b13, PySem.W.mg_of X G a13, _, _, F14, b14, PySem.W.mg_of X G a14, _, _, F15, b15, PySem.W.mg_of X G a15, _, _, F16, b16, PySem.W.mg_of X G a16, _, _, F17, b17, PySem.W.mg_of X G a17, _, _, F18, b18, PySem.W.mg_of X G a18, _, _, F19, b19, PySem.W.mg_of X G a19, _, _, F20, b20, PySem.W.mg_of X G a20, _, _, F21, b21, PySem.W.mg_of X G a21, _, _, F22, b22, PySem.W.mg_of X G a22, _, _, F23, b23, PySem.W.mg_of X G a23, _, _, F24, b24, PySem.W.mg_of X G a24, _, _, F25, b25, PySem.W.mg_of X G a25, _, _, F26, b26, PySem.W.mg_of X G a26, _, _, F27, b27, PySem.W.mg_of X G a27, _, _, F28, b28, PySem.W.mg_of X G a28, _, _, F29, b29, PySem.W.mg_of X G a29, _, _, F30, b30, PySem.W.mg_of X G a30, _, _, F31, b31, PySem.W.mg_of X G a31, _, _, F32, b32, PySem.W.mg_of X G a32, _, _, F33, b33, PySem.W.mg_of X G a33, _, _, F34, b34, PySem.W.mg_of X G a34, _, _, F35, b35, PySem.W.mg_of X G a35, _, _, F36, b36, PySem.W.mg_of X G a36, _, _, F37, b37, PySem.W.mg_of X G a37, _, _, F38, b38, PySem.W.mg_of X G a38, _, _, F39, b39, PySem.W.mg_of X G a39, _, _, F40, b40, PySem.W.mg_of X G a40, _, _, F41, b41, PySem.W.mg_of X G a41, _, _, F42, b42, PySem.W.mg_of X G a42, _, _, F43, b43, PySem.W.mg_of X G a43, _, _, F44, b44, PySem.W.mg_of X G a44, _, _, F45, b45, PySem.W.mg_of X G a45, _, _, F46, b46, PySem.W.mg_of X G a46, _, _, F47, b47, PySem.W.mg_of X G a47, _, _, F48, b48, _, _, F49, b49, _, _, F50, b50, _, _, F51, b51, _, _, F52, b52, _, _, F53, b53, _, _, F54, b54, _, _, F55, b55, _, _, F56, b56, _, _, F57, b57, _, _, F58, b58, C_Program, ⟨pg_Program, hd_Program, po_Program, sa_Program⟩, PySem.W.mg_of X G aC_Program, n_Program_modulus, n_Program_cells, n_Program_inputs, n_Program_steps, ⟨⟨pg_Program, hd_Program, po_Program, sa_Program⟩, ih_Program, hnE, htE, im_Program, kit_ref hd_Program it_Program is_Program is_Program⟩, sf_Program, ⟨mk_Program, a48, i48, kc_Program⟩, C_Loan, ⟨pg_Loan, hd_Loan, po_Loan, sa_Loan⟩, PySem.W.mg_of X G aC_Loan, n_Loan_steps, n_Loan_places, n_Loan_given, n_Loan_first, n_Loan_done, ⟨mk_Loan, a49, i49, kc_Loan⟩, C_Vault, ⟨pg_Vault, hd_Vault, po_Vault, sa_Vault⟩, PySem.W.mg_of X G aC_Vault, n_Vault__memory, n_Vault__modulus, n_Vault__loans, n_Vault__next_ticket, ⟨mk_Vault, a50, i50, kc_Vault⟩, pp51, ⟨a51, pg51, pt51, _, pr51⟩, ⟨a52, i52, k52⟩, ⟨a53, i53, k53⟩, ⟨a54, i54, k54⟩, ⟨a55, i55, k55⟩, ⟨a56, i56, k56⟩, ⟨a57, i57, k57⟩, ⟨a58, i58, k58⟩, E_BrimfulError, PySem.W.mg_of X G aE_BrimfulError, xE_BrimfulError, kE_BrimfulError, bE_BrimfulError, tE_BrimfulError, dE_BrimfulError, ⟨h1E_BrimfulError, h2E_BrimfulError, bE_BrimfulError, dE_BrimfulError, h3E_BrimfulError, hnE, htE, h4E_BrimfulError⟩, E_BadTicket, PySem.W.mg_of X G aE_BadTicket, xE_BadTicket, kE_BadTicket, bE_BadTicket, tE_BadTicket, dE_BadTicket, ⟨h1E_BadTicket, h2E_BadTicket, bE_BadTicket, dE_BadTicket, h3E_BadTicket, hnE, htE, h4E_BadTicket⟩, E_Busy, PySem.W.mg_of X G aE_Busy, xE_Busy, kE_Busy, bE_Busy, tE_Busy, dE_Busy, ⟨h1E_Busy, h2E_Busy, bE_Busy, dE_Busy, h3E_Busy, hnE, htE, h4E_Busy⟩, E_BadStep, PySem.W.mg_of X G aE_BadStep, xE_BadStep, kE_BadStep, bE_BadStep, tE_BadStep, dE_BadStep, ⟨h1E_BadStep, h2E_BadStep, bE_BadStep, dE_BadStep, h3E_BadStep, hnE, htE, h4E_BadStep⟩, E_BadMemory, PySem.W.mg_of X G aE_BadMemory, xE_BadMemory, kE_BadMemory, bE_BadMemory, tE_BadMemory, dE_BadMemory, ⟨h1E_BadMemory, h2E_BadMemory, bE_BadMemory, dE_BadMemory, h3E_BadMemory, hnE, htE, h4E_BadMemory⟩, sE_BrimfulError_BrimfulError, sE_BrimfulError_BadTicket, sE_BrimfulError_Busy, sE_BrimfulError_BadStep, sE_BrimfulError_BadMemory, sE_BadTicket_BrimfulError, sE_BadTicket_BadTicket, sE_BadTicket_Busy, sE_BadTicket_BadStep, sE_BadTicket_BadMemory, sE_Busy_BrimfulError, sE_Busy_BadTicket, sE_Busy_Busy, sE_Busy_BadStep, sE_Busy_BadMemory, sE_BadStep_BrimfulError, sE_BadStep_BadTicket, sE_BadStep_Busy, sE_BadStep_BadStep, sE_BadStep_BadMemory, sE_BadMemory_BrimfulError, sE_BadMemory_BadTicket, sE_BadMemory_Busy, sE_BadMemory_BadStep, sE_BadMemory_BadMemory, PySem.W.mg_none_of X G z_all, PySem.W.mg_none_of X G z_any, PySem.W.mg_none_of X G z_bool, PySem.W.mg_none_of X G z_enumerate, PySem.W.mg_none_of X G z_int, PySem.W.mg_none_of X G z_isinstance, PySem.W.mg_none_of X G z_len, PySem.W.mg_none_of X G z_list, PySem.W.mg_none_of X G z_max, PySem.W.mg_none_of X G z_min, PySem.W.mg_none_of X G z_property, PySem.W.mg_none_of X G z_range, PySem.W.mg_none_of X G z_set, PySem.W.mg_none_of X G z_sorted, PySem.W.mg_none_of X G z_str, PySem.W.mg_none_of X G z_sum, PySem.W.mg_none_of X G z_tuple, PySem.W.mg_none_of X G z_zip, PySem.W.mg_of X G z_gcd, PySem.W.mg_of X G z_isqrt, _, PySem.W.mg_of X G z_GREATEST_MODULUS, _, PySem.W.mg_of X G z_MOST_CELLS_programs, _, PySem.W.mg_of X G z_MOST_CELLS_vault, _, PySem.W.mg_of X G z_MOST_FACTORS, _, PySem.W.mg_of X G z_MOST_INPUTS, _, PySem.W.mg_of X G z_MOST_STEPS⟩ : Txt K mg)⟩
end
end Br
open PySem PySem.W PyProof.Rows
set_option maxRecDepth 100000 in
set_option maxHeartbeats 0 in
theorem PySem.Challenge.cw_brimful_k51_loans_are_checked_holds : PySem.Challenge.rw_brimful_k51_loans_are_checked.Holds := by
  w_on; o_law; k_head; (case hw => w_witness2)
  k_fill
  refine L2.walk_of (l := PySem.Challenge.rw_brimful_k51_loans_are_checked) (n := 63) (k := 10) (x := "script") (CX := fun _ => L2.CX0) (sp := fun w => Br.sp_law _) rfl (by decide) rfl ⟨rfl, by decide, by decide⟩ (fun w h Y => PySem.W.kIn_of Y) ?F (fun _ _ a ns hl _ hS => ⟨a, ns, rfl, hS, hl, fun _ => rfl⟩) (fun _ _ _ _ _ h => h)
  case F =>
    intro w mg fa h KX G hmg
    refine' Br.all_mk KX G hmg ?aC_Program ?pg_Program ?hd_Program ?po_Program ?sa_Program ?mk_Program ?kc_Program ?aC_Loan ?pg_Loan ?hd_Loan ?po_Loan ?sa_Loan ?mk_Loan ?kc_Loan ?aC_Vault ?pg_Vault ?hd_Vault ?po_Vault ?sa_Vault ?mk_Vault ?kc_Vault ?hnE ?htE ?aE_BrimfulError ?xE_BrimfulError ?kE_BrimfulError ?bE_BrimfulError ?tE_BrimfulError ?dE_BrimfulError ?h1E_BrimfulError ?h2E_BrimfulError ?h3E_BrimfulError ?h4E_BrimfulError ?aE_BadTicket ?xE_BadTicket ?kE_BadTicket ?bE_BadTicket ?tE_BadTicket ?dE_BadTicket ?h1E_BadTicket ?h2E_BadTicket ?h3E_BadTicket ?h4E_BadTicket ?aE_Busy ?xE_Busy ?kE_Busy ?bE_Busy ?tE_Busy ?dE_Busy ?h1E_Busy ?h2E_Busy ?h3E_Busy ?h4E_Busy ?aE_BadStep ?xE_BadStep ?kE_BadStep ?bE_BadStep ?tE_BadStep ?dE_BadStep ?h1E_BadStep ?h2E_BadStep ?h3E_BadStep ?h4E_BadStep ?aE_BadMemory ?xE_BadMemory ?kE_BadMemory ?bE_BadMemory ?tE_BadMemory ?dE_BadMemory ?h1E_BadMemory ?h2E_BadMemory ?h3E_BadMemory ?h4E_BadMemory ?sE_BrimfulError_BrimfulError ?sE_BrimfulError_BadTicket ?sE_BrimfulError_Busy ?sE_BrimfulError_BadStep ?sE_BrimfulError_BadMemory ?sE_BadTicket_BrimfulError ?sE_BadTicket_BadTicket ?sE_BadTicket_Busy ?sE_BadTicket_BadStep ?sE_BadTicket_BadMemory ?sE_Busy_BrimfulError ?sE_Busy_BadTicket ?sE_Busy_Busy ?sE_Busy_BadStep ?sE_Busy_BadMemory ?sE_BadStep_BrimfulError ?sE_BadStep_BadTicket ?sE_BadStep_Busy ?sE_BadStep_BadStep ?sE_BadStep_BadMemory ?sE_BadMemory_BrimfulError ?sE_BadMemory_BadTicket ?sE_BadMemory_Busy ?sE_BadMemory_BadStep ?sE_BadMemory_BadMemory ?a0 ?l0 ?c0 ?k0 ?a1 ?l1 ?c1 ?k1 ?a2 ?l2 ?c2 ?k2 ?a3 ?l3 ?c3 ?k3 ?a4 ?l4 ?c4 ?k4 ?a5 ?l5 ?c5 ?k5 ?a6 ?l6 ?c6 ?k6 ?a7 ?l7 ?c7 ?k7 ?a8 ?l8 ?c8 ?k8 ?a9 ?l9 ?c9 ?k9 ?a10 ?l10 ?c10 ?k10 ?a11 ?l11 ?c11 ?k11 ?a12 ?l12 ?c12 ?k12 ?a13 ?l13 ?c13 ?k13 ?a14 ?l14 ?c14 ?k14 ?a15 ?l15 ?c15 ?k15 ?a16 ?l16 ?c16 ?k16 ?a17 ?l17 ?c17 ?k17 ?a18 ?l18 ?c18 ?k18 ?a19 ?l19 ?c19 ?k19 ?a20 ?l20 ?c20 ?k20 ?a21 ?l21 ?c21 ?k21 ?a22 ?l22 ?c22 ?k22 ?a23 ?l23 ?c23 ?k23 ?a24 ?l24 ?c24 ?k24 ?a25 ?l25 ?c25 ?k25 ?a26 ?l26 ?c26 ?k26 ?a27 ?l27 ?c27 ?k27 ?a28 ?l28 ?c28 ?k28 ?a29 ?l29 ?c29 ?k29 ?a30 ?l30 ?c30 ?k30 ?a31 ?l31 ?c31 ?k31 ?a32 ?l32 ?c32 ?k32 ?a33 ?l33 ?c33 ?k33 ?a34 ?l34 ?c34 ?k34 ?a35 ?l35 ?c35 ?k35 ?a36 ?l36 ?c36 ?k36 ?a37 ?l37 ?c37 ?k37 ?a38 ?l38 ?c38 ?k38 ?a39 ?l39 ?c39 ?k39 ?a40 ?l40 ?c40 ?k40 ?a41 ?l41 ?c41 ?k41 ?a42 ?l42 ?c42 ?k42 ?a43 ?l43 ?c43 ?k43 ?a44 ?l44 ?c44 ?k44 ?a45 ?l45 ?c45 ?k45 ?a46 ?l46 ?c46 ?k46 ?a47 ?l47 ?c47 ?k47 ?a48 ?i48 ?l48 ?c48 ?k48 ?a49 ?i49 ?l49 ?c49 ?k49 ?a50 ?i50 ?l50 ?c50 ?k50 ?a51 ?pg51 ?pt51 ?pr51 ?l51 ?c51 ?k51 ?a52 ?i52 ?l52 ?c52 ?k52 ?a53 ?i53 ?l53 ?c53 ?k53 ?a54 ?i54 ?l54 ?c54 ?k54 ?a55 ?i55 ?l55 ?c55 ?k55 ?a56 ?i56 ?l56 ?c56 ?k56 ?a57 ?i57 ?l57 ?c57 ?k57 ?a58 ?i58 ?l58 ?c58 ?k58 ?n_Program_modulus ?n_Program_cells ?n_Program_inputs ?n_Program_steps ?ih_Program ?im_Program ?it_Program ?is_Program ?sf_Program ?n_Loan_steps ?n_Loan_places ?n_Loan_given ?n_Loan_first ?n_Loan_done ?n_Vault__memory ?n_Vault__modulus ?n_Vault__loans ?n_Vault__next_ticket ?z_all ?z_any ?z_bool ?z_enumerate ?z_int ?z_isinstance ?z_len ?z_list ?z_max ?z_min ?z_property ?z_range ?z_set ?z_sorted ?z_str ?z_sum ?z_tuple ?z_zip ?z_gcd ?z_isqrt ?z_GREATEST_MODULUS ?z_MOST_CELLS_programs ?z_MOST_CELLS_vault ?z_MOST_FACTORS ?z_MOST_INPUTS ?z_MOST_STEPS
    (case aC_Program => k_is)
    (case pg_Program => k_is)
    (case hd_Program => k_is)
    (case po_Program => k_is)
    (case sa_Program => k_is)
    (case mk_Program => k_is)
    (case kc_Program => k_is)
    (case aC_Loan => k_is)
    (case pg_Loan => k_is)
    (case hd_Loan => k_is)
    (case po_Loan => k_is)
    (case sa_Loan => k_is)
    (case mk_Loan => k_is)
    (case kc_Loan => k_is)
    (case aC_Vault => k_is)
    (case pg_Vault => k_is)
    (case hd_Vault => k_is)
    (case po_Vault => k_is)
    (case sa_Vault => k_is)
    (case mk_Vault => k_is)
    (case kc_Vault => k_is)
    (case hnE => k_is)
    (case htE => k_is)
    (case aE_BrimfulError => k_is)
    (case xE_BrimfulError => k_exc)
    (case kE_BrimfulError => k_is)
    (case bE_BrimfulError => k_is)
    (case tE_BrimfulError => k_is)
    (case dE_BrimfulError => k_is)
    (case h1E_BrimfulError => k_is)
    (case h2E_BrimfulError => k_is)
    (case h3E_BrimfulError => k_is)
    (case h4E_BrimfulError => k_is)
    (case aE_BadTicket => k_is)
    (case xE_BadTicket => k_exc)
    (case kE_BadTicket => k_is)
    (case bE_BadTicket => k_is)
    (case tE_BadTicket => k_is)
    (case dE_BadTicket => k_is)
    (case h1E_BadTicket => k_is)
    (case h2E_BadTicket => k_is)
    (case h3E_BadTicket => k_is)
    (case h4E_BadTicket => k_is)
    (case aE_Busy => k_is)
    (case xE_Busy => k_exc)
    (case kE_Busy => k_is)
    (case bE_Busy => k_is)
    (case tE_Busy => k_is)
    (case dE_Busy => k_is)
    (case h1E_Busy => k_is)
    (case h2E_Busy => k_is)
    (case h3E_Busy => k_is)
    (case h4E_Busy => k_is)
    (case aE_BadStep => k_is)
    (case xE_BadStep => k_exc)
    (case kE_BadStep => k_is)
    (case bE_BadStep => k_is)
    (case tE_BadStep => k_is)
    (case dE_BadStep => k_is)
    (case h1E_BadStep => k_is)
    (case h2E_BadStep => k_is)
    (case h3E_BadStep => k_is)
    (case h4E_BadStep => k_is)
    (case aE_BadMemory => k_is)
    (case xE_BadMemory => k_exc)
    (case kE_BadMemory => k_is)
    (case bE_BadMemory => k_is)
    (case tE_BadMemory => k_is)
    (case dE_BadMemory => k_is)
    (case h1E_BadMemory => k_is)
    (case h2E_BadMemory => k_is)
    (case h3E_BadMemory => k_is)
    (case h4E_BadMemory => k_is)
    (case sE_BrimfulError_BrimfulError => first | rfl | k_is)
    (case sE_BrimfulError_BadTicket => first | rfl | k_is)
    (case sE_BrimfulError_Busy => first | rfl | k_is)
    (case sE_BrimfulError_BadStep => first | rfl | k_is)
    (case sE_BrimfulError_BadMemory => first | rfl | k_is)
    (case sE_BadTicket_BrimfulError => first | rfl | k_is)
    (case sE_BadTicket_BadTicket => first | rfl | k_is)
    (case sE_BadTicket_Busy => first | rfl | k_is)
    (case sE_BadTicket_BadStep => first | rfl | k_is)
    (case sE_BadTicket_BadMemory => first | rfl | k_is)
    (case sE_Busy_BrimfulError => first | rfl | k_is)
    (case sE_Busy_BadTicket => first | rfl | k_is)
    (case sE_Busy_Busy => first | rfl | k_is)
    (case sE_Busy_BadStep => first | rfl | k_is)
    (case sE_Busy_BadMemory => first | rfl | k_is)
    (case sE_BadStep_BrimfulError => first | rfl | k_is)
    (case sE_BadStep_BadTicket => first | rfl | k_is)
    (case sE_BadStep_Busy => first | rfl | k_is)
    (case sE_BadStep_BadStep => first | rfl | k_is)
    (case sE_BadStep_BadMemory => first | rfl | k_is)
    (case sE_BadMemory_BrimfulError => first | rfl | k_is)
    (case sE_BadMemory_BadTicket => first | rfl | k_is)
    (case sE_BadMemory_Busy => first | rfl | k_is)
    (case sE_BadMemory_BadStep => first | rfl | k_is)
    (case sE_BadMemory_BadMemory => first | rfl | k_is)
    (case a0 => k_is)
    (case l0 => k_is)
    (case c0 => k_is)
    (case k0 => k_is)
    (case a1 => k_is)
    (case l1 => k_is)
    (case c1 => k_is)
    (case k1 => k_is)
    (case a2 => k_is)
    (case l2 => k_is)
    (case c2 => k_is)
    (case k2 => k_is)
    (case a3 => k_is)
    (case l3 => k_is)
    (case c3 => k_is)
    (case k3 => k_is)
    (case a4 => k_is)
    (case l4 => k_is)
    (case c4 => k_is)
    (case k4 => k_is)
    (case a5 => k_is)
    (case l5 => k_is)
    (case c5 => k_is)
    (case k5 => k_is)
    (case a6 => k_is)
    (case l6 => k_is)
    (case c6 => k_is)
    (case k6 => k_is)
    (case a7 => k_is)
    (case l7 => k_is)
    (case c7 => k_is)
    (case k7 => k_is)
    (case a8 => k_is)
    (case l8 => k_is)
    (case c8 => k_is)
    (case k8 => k_is)
    (case a9 => k_is)
    (case l9 => k_is)
    (case c9 => k_is)
    (case k9 => k_is)
    (case a10 => k_is)
    (case l10 => k_is)
    (case c10 => k_is)
    (case k10 => k_is)
    (case a11 => k_is)
    (case l11 => k_is)
    (case c11 => k_is)
    (case k11 => k_is)
    (case a12 => k_is)
    (case l12 => k_is)
    (case c12 => k_is)
    (case k12 => k_is)
    (case a13 => k_is)
    (case l13 => k_is)
    (case c13 => k_is)
    (case k13 => k_is)
    (case a14 => k_is)
    (case l14 => k_is)
    (case c14 => k_is)
    (case k14 => k_is)
    (case a15 => k_is)
    (case l15 => k_is)
    (case c15 => k_is)
    (case k15 => k_is)
    (case a16 => k_is)
    (case l16 => k_is)
    (case c16 => k_is)
    (case k16 => k_is)
    (case a17 => k_is)
    (case l17 => k_is)
    (case c17 => k_is)
    (case k17 => k_is)
    (case a18 => k_is)
    (case l18 => k_is)
    (case c18 => k_is)
    (case k18 => k_is)
    (case a19 => k_is)
    (case l19 => k_is)
    (case c19 => k_is)
    (case k19 => k_is)
    (case a20 => k_is)
    (case l20 => k_is)
    (case c20 => k_is)
    (case k20 => k_is)
    (case a21 => k_is)
    (case l21 => k_is)
    (case c21 => k_is)
    (case k21 => k_is)
    (case a22 => k_is)
    (case l22 => k_is)
    (case c22 => k_is)
    (case k22 => k_is)
    (case a23 => k_is)
    (case l23 => k_is)
    (case c23 => k_is)
    (case k23 => k_is)
    (case a24 => k_is)
    (case l24 => k_is)
    (case c24 => k_is)
    (case k24 => k_is)
    (case a25 => k_is)
    (case l25 => k_is)
    (case c25 => k_is)
    (case k25 => k_is)
    (case a26 => k_is)
    (case l26 => k_is)
    (case c26 => k_is)
    (case k26 => k_is)
    (case a27 => k_is)
    (case l27 => k_is)
    (case c27 => k_is)
    (case k27 => k_is)
    (case a28 => k_is)
    (case l28 => k_is)
    (case c28 => k_is)
    (case k28 => k_is)
    (case a29 => k_is)
    (case l29 => k_is)
    (case c29 => k_is)
    (case k29 => k_is)
    (case a30 => k_is)
    (case l30 => k_is)
    (case c30 => k_is)
    (case k30 => k_is)
    (case a31 => k_is)
    (case l31 => k_is)
    (case c31 => k_is)
    (case k31 => k_is)
    (case a32 => k_is)
    (case l32 => k_is)
    (case c32 => k_is)
    (case k32 => k_is)
    (case a33 => k_is)
    (case l33 => k_is)
    (case c33 => k_is)
    (case k33 => k_is)
    (case a34 => k_is)
    (case l34 => k_is)
    (case c34 => k_is)
    (case k34 => k_is)
    (case a35 => k_is)
    (case l35 => k_is)
    (case c35 => k_is)
    (case k35 => k_is)
    (case a36 => k_is)
    (case l36 => k_is)
    (case c36 => k_is)
    (case k36 => k_is)
    (case a37 => k_is)
    (case l37 => k_is)
    (case c37 => k_is)
    (case k37 => k_is)
    (case a38 => k_is)
    (case l38 => k_is)
    (case c38 => k_is)
    (case k38 => k_is)
    (case a39 => k_is)
    (case l39 => k_is)
    (case c39 => k_is)
    (case k39 => k_is)
    (case a40 => k_is)
    (case l40 => k_is)
    (case c40 => k_is)
    (case k40 => k_is)
    (case a41 => k_is)
    (case l41 => k_is)
    (case c41 => k_is)
    (case k41 => k_is)
    (case a42 => k_is)
    (case l42 => k_is)
    (case c42 => k_is)
    (case k42 => k_is)
    (case a43 => k_is)
    (case l43 => k_is)
    (case c43 => k_is)
    (case k43 => k_is)
    (case a44 => k_is)
    (case l44 => k_is)
    (case c44 => k_is)
    (case k44 => k_is)
    (case a45 => k_is)
    (case l45 => k_is)
    (case c45 => k_is)
    (case k45 => k_is)
    (case a46 => k_is)
    (case l46 => k_is)
    (case c46 => k_is)
    (case k46 => k_is)
    (case a47 => k_is)
    (case l47 => k_is)
    (case c47 => k_is)
    (case k47 => k_is)
    (case a48 => k_is)
    (case i48 => k_is)
    (case l48 => k_is)
    (case c48 => k_is)
    (case k48 => k_is)
    (case a49 => k_is)
    (case i49 => k_is)
    (case l49 => k_is)
    (case c49 => k_is)
    (case k49 => k_is)
    (case a50 => k_is)
    (case i50 => k_is)
    (case l50 => k_is)
    (case c50 => k_is)
    (case k50 => k_is)
    (case a51 => k_is)
    (case pg51 => k_is)
    (case pt51 => k_is)
    (case pr51 => k_is)
    (case l51 => k_is)
    (case c51 => k_is)
    (case k51 => k_is)
    (case a52 => k_is)
    (case i52 => k_is)
    (case l52 => k_is)
    (case c52 => k_is)
    (case k52 => k_is)
    (case a53 => k_is)
    (case i53 => k_is)
    (case l53 => k_is)
    (case c53 => k_is)
    (case k53 => k_is)
    (case a54 => k_is)
    (case i54 => k_is)
    (case l54 => k_is)
    (case c54 => k_is)
    (case k54 => k_is)
    (case a55 => k_is)
    (case i55 => k_is)
    (case l55 => k_is)
    (case c55 => k_is)
    (case k55 => k_is)
    (case a56 => k_is)
    (case i56 => k_is)
    (case l56 => k_is)
    (case c56 => k_is)
    (case k56 => k_is)
    (case a57 => k_is)
    (case i57 => k_is)
    (case l57 => k_is)
    (case c57 => k_is)
    (case k57 => k_is)
    (case a58 => k_is)
    (case i58 => k_is)
    (case l58 => k_is)
    (case c58 => k_is)
    (case k58 => k_is)
    (case n_Program_modulus => k_is)
    (case n_Program_cells => k_is)
    (case n_Program_inputs => k_is)
    (case n_Program_steps => k_is)
    (case ih_Program => k_is)
    (case im_Program => k_is)
    (case it_Program => k_is)
    (case is_Program => k_is)
    (case sf_Program => k_is)
    (case n_Loan_steps => k_is)
    (case n_Loan_places => k_is)
    (case n_Loan_given => k_is)
    (case n_Loan_first => k_is)
    (case n_Loan_done => k_is)
    (case n_Vault__memory => k_is)
    (case n_Vault__modulus => k_is)
    (case n_Vault__loans => k_is)
    (case n_Vault__next_ticket => k_is)
    (case z_all => k_is)
    (case z_any => k_is)
    (case z_bool => k_is)
    (case z_enumerate => k_is)
    (case z_int => k_is)
    (case z_isinstance => k_is)
    (case z_len => k_is)
    (case z_list => k_is)
    (case z_max => k_is)
    (case z_min => k_is)
    (case z_property => k_is)
    (case z_range => k_is)
    (case z_set => k_is)
    (case z_sorted => k_is)
    (case z_str => k_is)
    (case z_sum => k_is)
    (case z_tuple => k_is)
    (case z_zip => k_is)
    (case z_gcd => k_is)
    (case z_isqrt => k_is)
    (case z_GREATEST_MODULUS => k_is)
    (case z_MOST_CELLS_programs => k_is)
    (case z_MOST_CELLS_vault => k_is)
    (case z_MOST_FACTORS => k_is)
    (case z_MOST_INPUTS => k_is)
    (case z_MOST_STEPS => k_is)
