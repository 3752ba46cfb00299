import PyProof.Rows.All
import Wide.All
import OpenK.AllK
import Wide.FinOn
import HandS.ForMost
import HandS.Gcd
import HandS.Wide
import HandS.IsInst
import HandS.Steps
import HandS.SortKw
import HandS.Style
import HandS.Star
import HandS.SetFor
import HandS.TupAny
import PyProof.SetRoads
import PyProof.Rows.SetFrom
import KE.DataMinMax
import HandS.Evl
import HandS.Walk
import HandS.ForExc
import HandS.ExcIs
import HandS.RaiseMore
import HandS.FStr
import KE.GoesEnum
import PyProof.Rows.MatchSeqLen
import Flt.RightSqrt
import PySem.Challenge.RW_brimful_k32_gates_are_spread
set_option Elab.async false
set_option linter.all false
set_option maxRecDepth 100000
set_option maxHeartbeats 4000000

namespace Br
open PySem PySem.Spec PyProof.Rows L2

/-! ### readings with names -/
def rLen (K : PySem.W.Frag) : List V → Hp → VK → Prop := fun xs H Q => ∃ p ys, xs = [.ref p] ∧ (SqL K H p ys ∨ SqT K H p ys) ∧ Q (.int ys.length) H
theorem cr_len {X : Cx} : CallR X (.builtin "len") (rLen X.K) := call_len_seq
def rInt1 : List V → Hp → VK → Prop := fun xs H Q => (∃ i, xs = [.int i] ∧ Q (.int i) H) ∨ ∃ k, xs = [.bl k] ∧ Q (.int (if k then 1 else 0)) H
theorem cr_int1 {X : Cx} : CallR X (.type "int") rInt1 := call_int1
def rMin2 : List V → Hp → VK → Prop := fun xs H Q => ∃ i j, xs = [.int i, .int j] ∧ Q (.int (if j < i then j else i)) H
theorem cr_min2 {X : Cx} (hc : X.calm = true) : CallR X (.builtin "min") rMin2 := call_min2 hc
def rMax2 : List V → Hp → VK → Prop := fun xs H Q => ∃ i j, xs = [.int i, .int j] ∧ Q (.int (if j > i then j else i)) H
theorem cr_max2 {X : Cx} (hc : X.calm = true) : CallR X (.builtin "max") rMax2 := call_max2 hc
def rListOf (K : PySem.W.Frag) : List V → Hp → VK → Prop := fun xs H Q => ∃ p ys, xs = [.ref p] ∧ (SqL K H p ys ∨ SqT K H p ys) ∧ ∀ l, H l = none → Q (.ref l) (upd H l (.lst ys))
theorem cr_list_of {X : Cx} : CallR X (.type "list") (rListOf X.K) := call_list_of
def rTupOf (K : PySem.W.Frag) : List V → Hp → VK → Prop := fun xs H Q => ∃ p ys, xs = [.ref p] ∧ ((SqL K H p ys ∧ ∀ l, H l = none → Q (.ref l) (upd H l (.tup ys))) ∨ (SqT K H p ys ∧ Q (.ref p) H))
theorem cr_tup_of {X : Cx} : CallR X (.type "tuple") (rTupOf X.K) := call_tuple_of
def cr_isqrt_r : List V → Hp → VK → Prop := fun vs H Q => ∃ i : Int, vs = [.int i] ∧ 0 ≤ i ∧ i < 2 ^ 64 ∧ Q (.int ((Float64.isqrt i.toNat : Nat) : Int)) H
/-! ### steps of a reading -/
section
variable {σ : L2.St} {H : Hp} {D : Ends} {Q : VK} {QT : Bool → Hp → Prop} {QA : List V → Hp → Prop} {K : PySem.W.Frag}
theorem x_seq {a u : TS} (h : a ⟨u D, D.rt, D.bk, D.ct⟩ σ H) : tSeq a u D σ H := h
theorem x_cut {a u : TS} (M : L2.St → Hp → Prop) (h : a ⟨M, D.rt, D.bk, D.ct⟩ σ H) (k : ∀ σ' H', M σ' H' → u D σ' H') : Evl.tCut a u D σ H := ⟨M, h, k⟩
theorem x_next (h : D.nx σ H) : tNext D σ H := h
theorem x_set {te : TE} {i : Nat} (h : te σ H fun x H1 => D.nx (σ.set i (some x)) H1) : tAsg te (gName i) D σ H := h
theorem x_asg {te : TE} {g : TG} (h : te σ H fun x H1 => g x σ H1 D.nx) : tAsg te g D σ H := h
/-- what a field's reading asks of the object -/
def FldR (K : PySem.W.Frag) (f : Str) (x : V) (H : Hp) (Q : VK) : Prop := ∃ a C dx fs v, x = .ref a ∧ H a = some (.ins C dx fs) ∧ Cls K C ∧ NoAttr K C f ∧ fs.lookup f = some v ∧ Q v H
theorem x_fld {ta : TE} {f : Str} (h : ta σ H fun x H1 => FldR K f x H1 Q) : tFld K ta f σ H Q := h
theorem x_fldR {a C dx : Addr} {fs : List (Str × V)} {f : Str} {v : V} (h : H a = some (.ins C dx fs)) (c : Cls K C) (n : NoAttr K C f) (l : fs.lookup f = some v) (q : Q v H) : FldR K f (.ref a) H Q := ⟨a, C, dx, fs, v, rfl, h, c, n, l, q⟩
/-- what storing a field asks -/
def FldS (K : PySem.W.Frag) (f : Str) (y x : V) (H : Hp) (R : Hp → Prop) : Prop := ∃ a C dx fs, x = .ref a ∧ H a = some (.ins C dx fs) ∧ Cls K C ∧ NoAttr K C f ∧ fs.length < 1000 ∧ R (upd H a (.ins C dx (putF f y fs)))
theorem x_fldS {ta tv : TE} {f : Str} (h : tv σ H fun y H1 => ta σ H1 fun x H2 => FldS K f y x H2 fun H3 => D.nx σ H3) : sFld K ta tv f D σ H := h
theorem x_gName {i : Nat} {v : V} {R : L2.St → Hp → Prop} (h : R (σ.set i (some v)) H) : gName i v σ H R := h
theorem x_par {i j : Nat} {ta tb : TE} (h : ta σ H fun x H1 => tb σ H1 fun y H2 => D.nx ((σ.set i (some x)).set j (some y)) H2) : tPar i j (tCons ta (tCons tb tNil)) D σ H :=
  (congrArg (fun (f : (V → Hp → Prop)) => ta σ H f) (funext fun x => funext fun H1 => congrArg (fun (f : (V → Hp → Prop)) => tb σ H1 f) (funext fun y => funext fun H2 => propext
    ⟨fun h => ⟨x, y, rfl, h⟩, fun ⟨v, w, e, h⟩ => by cases e; exact h⟩))).mp h
theorem x_ret {te : TE} (h : te σ H D.rt) : tRet te D σ H := h
theorem x_retN (h : D.rt .non H) : tRetN D σ H := h
theorem x_drop {te : TE} (h : te σ H fun _ H1 => D.nx σ H1) : tDrop te D σ H := h
theorem x_if {c : TT} {t u : TS} (h : c σ H fun b H1 => if b = true then t D σ H1 else u D σ H1) : tIfS c t u D σ H := h
theorem x_brk (h : D.bk σ H) : tBreak D σ H := h
theorem x_cont (h : D.ct σ H) : tCont D σ H := h
theorem x_var {i : Nat} {v : V} (h : σ[i]? = some (some v)) (q : Q v H) : tVar i σ H Q := ⟨v, h, q⟩
theorem x_c {v : V} (q : Q v H) : tC v σ H Q := q
theorem x_op {r : R2} {ta tb : TE} (h : ta σ H fun x H1 => tb σ H1 fun y H2 => r x y H2 Q) : tOp r ta tb σ H Q := h
theorem x_un {r : V → Hp → VK → Prop} {ta : TE} (h : ta σ H fun x H1 => r x H1 Q) : tUn r ta σ H Q := h
theorem x_I0 {g : Int → Int → V} {i j : Int} (q : Q (g i j) H) : rI0 g (.int i) (.int j) H Q := ⟨i, j, rfl, rfl, q⟩
theorem x_I {C : Int → Int → Prop} {g : Int → Int → V} {i j : Int} (c : C i j) (q : Q (g i j) H) : rI C g (.int i) (.int j) H Q := ⟨i, j, rfl, rfl, c, q⟩
theorem x_U {g : Int → V} {i : Int} (q : Q (g i) H) : rU g (.int i) H Q := ⟨i, rfl, q⟩
theorem v_int {i j : Int} : decide (V.int i = V.int j) = decide (i = j) := decide_eq_decide.mpr ⟨fun h => V.int.inj h, fun h => h ▸ rfl⟩
theorem x_EqI {i j : Int} (q : Q (.bl (decide (i = j))) H) : rEq (.int i) (.int j) H Q := ⟨rfl, v_int ▸ q⟩
theorem x_NeI {i j : Int} (q : Q (.bl (!decide (i = j))) H) : rNe (.int i) (.int j) H Q := ⟨rfl, by rw [v_int]; exact q⟩
theorem x_EqB {i j : Bool} (q : Q (.bl (decide (i = j))) H) : rEq (.bl i) (.bl j) H Q := ⟨rfl, by
  have e : decide (V.bl i = V.bl j) = decide (i = j) := decide_eq_decide.mpr ⟨fun h => V.bl.inj h, fun h => h ▸ rfl⟩
  rw [e]; exact q⟩
theorem x_Eq {x y : V} (s : scal x y = true) (q : Q (.bl (decide (x = y))) H) : rEq x y H Q := ⟨s, q⟩
theorem x_Ne {x y : V} (s : scal x y = true) (q : Q (.bl (!decide (x = y))) H) : rNe x y H Q := ⟨s, q⟩
theorem x_isN {x : V} (q : Q (.bl (decide (x = .non))) H) : (fun (x y : V) (H : Hp) (Q : VK) => y = V.non ∧ Q (.bl (decide (x = .non))) H) x .non H Q := ⟨rfl, q⟩
theorem x_ifE {t : TT} {ta tb : TE} (h : t σ H fun c H1 => if c = true then ta σ H1 Q else tb σ H1 Q) : tIf t ta tb σ H Q := h
theorem x_test {te : TE} {b : Unit} (h : te σ H fun x H1 => ∃ k, x = .bl k ∧ QT k H1) : tTest te σ H QT := h
theorem x_tB {te : TE} (h : te σ H fun x H1 => ∃ k, x = .bl k ∧ QT k H1) : tB te σ H QT := h
theorem x_bl {k : Bool} (q : QT k H) : ∃ k', V.bl k = .bl k' ∧ QT k' H := ⟨k, rfl, q⟩
theorem x_and {t u : TT} (h : t σ H fun c H1 => if c = true then u σ H1 QT else QT false H1) : tAnd t u σ H QT := h
theorem x_or {t u : TT} (h : t σ H fun c H1 => if c = true then QT true H1 else u σ H1 QT) : tOr t u σ H QT := h
theorem x_not {t : TT} (h : t σ H fun c H1 => QT (!c) H1) : tNot t σ H QT := h
theorem x_andV {ta tb : TE} (h : ta σ H fun x H1 => ∃ c, x = .bl c ∧ if c = true then tb σ H1 Q else Q (.bl false) H1) : tAndV ta tb σ H Q := h
theorem x_orV {ta tb : TE} (h : ta σ H fun x H1 => ∃ c, x = .bl c ∧ if c = true then Q (.bl true) H1 else tb σ H1 Q) : tOrV ta tb σ H Q := h
theorem x_notV {ta : TE} (h : ta σ H fun x H1 => ∃ c, x = .bl c ∧ Q (.bl (!c)) H1) : tNotV ta σ H Q := h
theorem x_blP {k : Bool} {P : Bool → Prop} (q : P k) : ∃ k', V.bl k = .bl k' ∧ P k' := ⟨k, rfl, q⟩
theorem x_nil (q : QA [] H) : tNil σ H QA := q
theorem x_cons {ta : TE} {tr : TA} (h : ta σ H fun x H1 => tr σ H1 fun xs H2 => QA (x :: xs) H2) : tCons ta tr σ H QA := h
theorem x_call {sp : Sp} {dvs : List V} {E : XK} {t : TA} (h : t σ H fun vs H1 => sp (vs ++ dvs) H1 Q E) : tCall sp dvs E t σ H Q := h
theorem x_CB {r : List V → Hp → VK → Prop} {t : TA} (h : t σ H fun vs H1 => r vs H1 Q) : tCB r t σ H Q := h
theorem x_BM {T : String} {r : V → List V → Hp → VK → Prop} {to : TE} {t : TA} (h : to σ H fun x H1 => tyV K T x H1 ∧ t σ H1 fun xs H2 => r x xs H2 Q) : tBM K T r to t σ H Q := h
theorem x_tup {t : TA} (h : t σ H fun xs H1 => xs.length ≤ sizeLine ∧ ∀ p, H1 p = none → Q (.ref p) (upd H1 p (.tup xs))) : tTup t σ H Q := h
theorem x_lst {t : TA} (h : t σ H fun xs H1 => xs.length ≤ sizeLine ∧ ∀ p, H1 p = none → Q (.ref p) (upd H1 p (.lst xs))) : tLst t σ H Q := h
theorem x_chain {r r' : R2} {ta tb tc : TE} (h : ta σ H fun x H1 => tb σ H1 fun y H2 => r x y H2 fun z H3 => ∃ k, z = .bl k ∧
  (if k = true then tc σ H3 fun w' H4 => r' y w' H4 Q else Q (.bl false) H3)) : tChain r r' ta tb tc σ H Q := h
theorem x_isi {x : V} {T S : String} {b : Bool} (ty : TyX K H x (.type S)) (h : kitB S T = some b) (q : Q (.bl b) H) : rIsi K [x, .ty T] H Q := ⟨x, .ty T, .type S, .type T, b, rfl, .ty T, ty, kit_ty h, q⟩
theorem x_iN {x : V} (q : Q (.bl (decide (x = .non))) H) : rIsN x .non H Q := ⟨rfl, q⟩
theorem x_nN {x : V} (q : Q (.bl (!decide (x = .non))) H) : rNotN x .non H Q := ⟨rfl, q⟩
theorem x_int1 {i : Int} (q : Q (.int i) H) : rInt1 [.int i] H Q := .inl ⟨i, rfl, q⟩
theorem x_min2 {i j : Int} (q : Q (.int (if j < i then j else i)) H) : rMin2 [.int i, .int j] H Q := ⟨i, j, rfl, q⟩
theorem x_max2 {i j : Int} (q : Q (.int (if j > i then j else i)) H) : rMax2 [.int i, .int j] H Q := ⟨i, j, rfl, q⟩
theorem x_listL {p : Addr} {xs : List V} (hp : SqL K H p xs) (q : ∀ l, H l = none → Q (.ref l) (upd H l (.lst xs))) : rListOf K [.ref p] H Q := ⟨p, xs, rfl, .inl hp, q⟩
theorem x_tupL {p : Addr} {xs : List V} (hp : SqL K H p xs) (q : ∀ l, H l = none → Q (.ref l) (upd H l (.tup xs))) : rTupOf K [.ref p] H Q := ⟨p, xs, rfl, .inl ⟨hp, q⟩⟩
theorem x_ite {p : Prop} [Decidable p] {A B : Prop} (h1 : p → A) (h2 : ¬ p → B) : if decide p = true then A else B := by
  by_cases h : p
  · rw [if_pos (decide_eq_true h)]; exact h1 h
  · rw [if_neg (by rw [decide_eq_false h]; exact Bool.false_ne_true)]; exact h2 h
theorem x_iteN {p : Prop} [Decidable p] {A B : Prop} (h1 : ¬ p → A) (h2 : p → B) : if (!decide p) = true then A else B := by
  by_cases h : p
  · rw [if_neg (by rw [decide_eq_true h]; decide)]; exact h2 h
  · rw [if_pos (by rw [decide_eq_false h]; rfl)]; exact h1 h
theorem x_iteB {b : Bool} {A B : Prop} (h1 : b = true → A) (h2 : b = false → B) : if b = true then A else B := by
  cases b with
  | true => rw [if_pos rfl]; exact h1 rfl
  | false => rw [if_neg Bool.false_ne_true]; exact h2 rfl
theorem x_iteBN {b : Bool} {A B : Prop} (h1 : b = false → A) (h2 : b = true → B) : if (!b) = true then A else B := by
  cases b with
  | true => rw [if_neg (by decide)]; exact h2 rfl
  | false => rw [if_pos (by decide)]; exact h1 rfl
theorem x_subL {i : Int} {x : V} {xs : List V} {p : Addr} {k : Nat} {q : Hp → Prop} (hp : H p = some (.lst xs)) (hk : ixN xs.length i = some k) (h : q (upd H p (.lst (xs.set k x)))) : rSetL (.ref p) (.int i) x H q :=
  ⟨p, xs, i, k, rfl, rfl, hp, hk, h⟩
theorem x_gSub {to ti : TE} {t : TSet} {v : V} {q : L2.St → Hp → Prop} (h : to σ H fun o H1 => ti σ H1 fun i H2 => t o i v H2 fun H3 => q σ H3) : gSub to ti t v σ H q := h
theorem x_for {wi : TI} {g : TG} {tb : TS} (h : wi σ H fun J H1 => ∃ W : Nat → Nat → L2.St → Hp → Prop, (∃ m, W 0 m σ H1) ∧ ∀ i m σ H, W i m σ H →
  (J.stop i H ∧ D.nx σ H) ∨ (J.go i H ∧ ∃ N : L2.St → Hp → Prop, (∀ σ' H', N σ' H' → ∃ m', m' < m ∧ W (i + 1) m' σ' H') ∧ ∀ x H', J.yld i H x H' → g x σ H' fun σ2 H2 => tb { D with nx := N, ct := N, bk := D.nx } σ2 H2)) : tFor wi g tb D σ H := h
theorem x_ixL {xs : List V} {i : Int} {v : V} {p : Addr} (hp : SqL K H p xs) (hi : atI xs i = some v) (q : Q v H) : rIxL K (.ref p) (.int i) H Q := ⟨p, xs, i, v, rfl, rfl, hp, hi, q⟩
theorem x_ixT {xs : List V} {i : Int} {v : V} {p : Addr} (hp : SqT K H p xs) (hi : atI xs i = some v) (q : Q v H) : rIxT K (.ref p) (.int i) H Q := ⟨p, xs, i, v, rfl, rfl, hp, hi, q⟩
/-- over a range from nought, of at most so many turns; the target a name -/
theorem x_forR1 {ta : TE} {j : Nat} {tb : TS} (n : Int) (P : Nat → L2.St → Hp → Prop) (hn : ∀ R : V → Hp → Prop, R (.int n) H → ta σ H R) (h1 : -(2 ^ 62) ≤ n) (h2 : n < 2 ^ 62) (h0 : P 0 σ H)
    (hs : ∀ (i : Nat) σ' H', (i : Int) < n → P i σ' H' → tb ⟨P (i + 1), D.rt, D.nx, P (i + 1)⟩ (σ'.set j (some (.int (i : Int)))) H') (hd : ∀ σ' H', P n.toNat σ' H' → D.nx σ' H') : tFor (iRng1 (tCons ta tNil)) (gName j) tb D σ H := by
  refine hn _ ⟨n, rfl, h1, h2, ?_⟩
  refine for_range (lo := 0) P h0 (fun i σ' H' hi p => ?_) hd
  have e : (0 : Int) + (i : Int) = (i : Int) := Int.zero_add _
  rw [e]
  exact hs i σ' H' (by omega) p
theorem x_forR2 {ta tc : TE} {j : Nat} {tb : TS} (lo n : Int) (P : Nat → L2.St → Hp → Prop) (hn : ∀ R : V → Hp → Prop, R (.int lo) H → ta σ H R) (hn2 : ∀ R : V → Hp → Prop, R (.int n) H → tc σ H R) (h1 : -(2 ^ 62) ≤ lo) (h2 : lo < 2 ^ 62) (h3 : -(2 ^ 62) ≤ n) (h4 : n < 2 ^ 62) (h0 : P 0 σ H)
    (hs : ∀ (i : Nat) σ' H', lo + (i : Int) < n → P i σ' H' → tb ⟨P (i + 1), D.rt, D.nx, P (i + 1)⟩ (σ'.set j (some (.int (lo + (i : Int))))) H') (hd : ∀ σ' H', P (n - lo).toNat σ' H' → D.nx σ' H') : tFor (iRng2 (tCons ta (tCons tc tNil))) (gName j) tb D σ H := by
  refine hn _ (hn2 _ ⟨lo, n, rfl, ⟨h1, h2, h3, h4⟩, ?_⟩)
  refine for_range (lo := lo) P h0 (fun i σ' H' hi p => ?_) hd
  exact hs i σ' H' (by omega) p
theorem rgC_up {i j c : Int} (hc : 0 < c) (hc2 : c < 1000000) (ha : 0 ≤ i) (ha' : i < 2 ^ 60) (hb : 0 ≤ j) (hb' : j < 2 ^ 60) : RgC i j c ((if i < j then (j - i - 1) / c + 1 else 0 : Int)).toNat := by
  have hd : 0 ≤ (j - i - 1) / c ∨ ¬ i < j := by
    by_cases h : i < j
    · exact .inl (Int.ediv_nonneg (by omega) (by omega))
    · exact .inr h
  have hd2 : i < j → (j - i - 1) / c * c ≤ j - i - 1 := fun _ => Int.ediv_mul_le _ (by omega)
  have hd3 : i < j → (j - i - 1) / c ≤ j - i - 1 := fun h => by
    have h0 : 0 ≤ (j - i - 1) / c := Int.ediv_nonneg (by omega) (by omega)
    have := hd2 h
    have h1 : (j - i - 1) / c * 1 ≤ (j - i - 1) / c * c := Int.mul_le_mul_of_nonneg_left (by omega) h0
    omega
  refine ⟨by omega, by omega, ?_, ?_⟩
  · unfold Builtin.Range.small Builtin.Range.rangeSize
    simp only [Builtin.Range.rangeFitsLong, Bool.and_eq_true, Bool.or_eq_true, decide_eq_true_eq, beq_iff_eq, show (c > 0) from hc, if_true]
    split
    · rename_i h
      have := hd3 h
      have h0 : 0 ≤ (j - i - 1) / c := Int.ediv_nonneg (by omega) (by omega)
      have := hd2 h
      generalize (j - i - 1) / c = q at *
      have e : (q + 1) * c = q * c + c := by rw [Int.add_mul, Int.one_mul]
      have e2 : (q + 1 - 1) * c = q * c := by rw [Int.add_sub_cancel]
      refine ⟨?_, ?_⟩ <;> (try rw [e]) <;> (try rw [e2]) <;> omega
    · omega
  · unfold Builtin.Range.rangeSize
    rw [if_pos hc]
    split
    · rcases hd with h | h
      · omega
      · omega
    · rfl
theorem x_forR3 {ta tc te : TE} {j : Nat} {tb : TS} (lo n c : Int) (P : Nat → L2.St → Hp → Prop) (hn : ∀ R : V → Hp → Prop, R (.int lo) H → ta σ H R) (hn2 : ∀ R : V → Hp → Prop, R (.int n) H → tc σ H R) (hn3 : ∀ R : V → Hp → Prop, R (.int c) H → te σ H R) (hc : 0 < c) (hc2 : c < 1000000) (h1 : 0 ≤ lo) (h2 : lo < 2 ^ 60) (h3 : 0 ≤ n) (h4 : n < 2 ^ 60) (h0 : P 0 σ H)
    (hs : ∀ (i : Nat) σ' H', lo + (i : Int) * c < n → P i σ' H' → tb ⟨P (i + 1), D.rt, D.nx, P (i + 1)⟩ (σ'.set j (some (.int (lo + (i : Int) * c)))) H') (hd : ∀ (i : Nat) σ' H', n ≤ lo + (i : Int) * c → P i σ' H' → D.nx σ' H') : tFor (iRng3 (tCons ta (tCons tc (tCons te tNil)))) (gName j) tb D σ H := by
  refine hn _ (hn2 _ (hn3 _ ⟨lo, n, c, _, rfl, rgC_up hc hc2 h1 h2 h3 h4, ?_⟩))
  refine for_rangeC (lo := lo) P h0 (fun i σ' H' hi p => hs i σ' H' ?_ p) (fun σ' H' p => hd _ σ' H' ?_ p)
  · split at hi
    · have hq : (i : Int) ≤ (n - lo - 1) / c := by omega
      have h5 : (n - lo - 1) / c * c ≤ n - lo - 1 := Int.ediv_mul_le _ (by omega)
      have h6 : (i : Int) * c ≤ (n - lo - 1) / c * c := Int.mul_le_mul_of_nonneg_right hq (by omega)
      omega
    · omega
  · split
    · have h5 : n - lo - 1 < ((n - lo - 1) / c + 1) * c := Int.lt_ediv_add_one_mul_self _ hc
      have h0 : 0 ≤ (n - lo - 1) / c := Int.ediv_nonneg (by omega) (by omega)
      rw [show ((((n - lo - 1) / c + 1).toNat : Nat) : Int) = (n - lo - 1) / c + 1 by omega]
      omega
    · have : (((0 : Int).toNat : Nat) : Int) * c = 0 := by simp
      omega
theorem isq_spec {i : Int} (h0 : 0 ≤ i) : ∃ r : Int, ((Float64.isqrt i.toNat : Nat) : Int) = r ∧ 0 ≤ r ∧ r * r ≤ i ∧ i < (r + 1) * (r + 1) := by
  refine ⟨_, rfl, Int.natCast_nonneg _, ?_, ?_⟩
  · have := (PySem.Float64.isqrt_spec i.toNat).1
    have e : ((Float64.isqrt i.toNat * Float64.isqrt i.toNat : Nat) : Int) ≤ (i.toNat : Int) := Int.ofNat_le.mpr this
    rw [Int.natCast_mul] at e
    omega
  · have := (PySem.Float64.isqrt_spec i.toNat).2
    have e : (i.toNat : Int) < (((Float64.isqrt i.toNat + 1) * (Float64.isqrt i.toNat + 1) : Nat) : Int) := Int.ofNat_lt.mpr this
    rw [Int.natCast_mul, Int.natCast_add] at e
    have e2 : ((1 : Nat) : Int) = 1 := rfl
    rw [e2] at e
    omega
theorem x_isqrt0 {i r : Int} (h0 : 0 ≤ i) (h1 : i < 2 ^ 64) (e : ((Float64.isqrt i.toNat : Nat) : Int) = r) (q : Q (.int r) H) : cr_isqrt_r [.int i] H Q := ⟨i, rfl, h0, h1, by rw [e]; exact q⟩
theorem x_forL {ta : TE} {g : TG} {tb : TS} {p : Addr} (xs : List V) (P : Nat → L2.St → Hp → Prop) (hn : ∀ R : V → Hp → Prop, R (.ref p) H → ta σ H R) (hp : SqL K H p xs) (h0 : P 0 σ H) (hl : ∀ i σ' H', i ≤ xs.length → P i σ' H' → SqL K H' p xs)
    (hs : ∀ i x σ' H', xs[i]? = some x → P i σ' H' → g x σ' H' fun σ2 H2 => tb ⟨P (i + 1), D.rt, D.nx, P (i + 1)⟩ σ2 H2) (hd : ∀ σ' H', P xs.length σ' H' → D.nx σ' H') : tFor (iList K ta) g tb D σ H :=
  hn _ ⟨p, rfl, ⟨xs, hp⟩, for_list (xs := xs) P h0 hl hs hd⟩
theorem x_app {p : Addr} {xs : List V} {y : V} (hp : H p = some (.lst xs)) (hl : xs.length < 1000000) (q : Q .non (upd H p (.lst (xs ++ [y])))) : rAppend (.ref p) [y] H Q :=
  ⟨p, xs, y, rfl, rfl, hp, Nat.lt_of_lt_of_le hl (by decide), q⟩
theorem x_tyL {p : Addr} {xs : List V} {R : Prop} (hp : H p = some (.lst xs)) (h : R) : tyV K "list" (.ref p) H ∧ R := ⟨.inl ⟨rfl, _, .inl (.inl hp)⟩, h⟩
theorem x_len {p : Addr} {xs : List V} (hp : SqL K H p xs) (q : Q (.int (xs.length : Int)) H) : rLen K [.ref p] H Q := ⟨p, xs, rfl, .inl hp, q⟩
theorem x_lenT {p : Addr} {xs : List V} (hp : SqT K H p xs) (q : Q (.int (xs.length : Int)) H) : rLen K [.ref p] H Q := ⟨p, xs, rfl, .inr hp, q⟩
theorem x_cat {p q : Addr} {xs ys : List V} (hp : H p = some (.lst xs)) (hq : H q = some (.lst ys)) (hl : xs.length + ys.length ≤ 1000000) (k : ∀ r, H r = none → Q (.ref r) (upd H r (.lst (xs ++ ys)))) : rCat (.ref p) (.ref q) H Q :=
  ⟨p, q, xs, ys, rfl, rfl, hp, hq, Nat.le_trans hl (by decide), k⟩
/-- while: a word by a measure -/
theorem x_while {c : TT} {tb : TS} (W : Nat → L2.St → Hp → Prop) (m0 : Nat) (h0 : W m0 σ H)
    (hs : ∀ m σ' H', W m σ' H' → ∃ b : Bool, (∀ R : Bool → Hp → Prop, R b H' → c σ' H' R) ∧ (b = true → tb ⟨fun σ2 H2 => ∃ m', m' < m ∧ W m' σ2 H2, D.rt, D.nx, fun σ2 H2 => ∃ m', m' < m ∧ W m' σ2 H2⟩ σ' H') ∧ (b = false → D.nx σ' H')) : tWhile c tb D σ H :=
  ⟨W, ⟨m0, h0⟩, fun m σ' H' w => by
    obtain ⟨b, h, h1, h2⟩ := hs m σ' H' w
    refine h _ ?_
    cases b with
    | true => exact iteT ⟨_, fun _ _ z => z, h1 rfl⟩
    | false => exact iteF (h2 rfl)⟩
theorem x_lcR1 {ta : TE} {j : Nat} {te : TE} {vs : List Nat} (n : Int) (P : Addr → Nat → Hp → Prop) (hn : ∀ R : V → Hp → Prop, R (.int n) H → ta σ H R) (h1 : -(2 ^ 62) ≤ n) (h2 : n < 2 ^ 62) (h0 : ∀ p, H p = none → P p 0 (upd H p (.lst [])))
    (hw : ∀ x, wipe ((wipe σ vs).set j (some x)) vs = wipe σ vs)
    (hs : ∀ p (i : Nat) H', H p = none → (i : Int) < n → P p i H' → te ((wipe σ vs).set j (some (.int (i : Int)))) H' fun y H4 => ∃ acc, H4 p = some (.lst acc) ∧ acc.length < sizeLine ∧ P p (i + 1) (upd H4 p (.lst (acc ++ [y]))))
    (hd : ∀ p H', H p = none → P p n.toNat H' → Q (.ref p) H') : tLc (iRng1 (tCons ta tNil)) (gName j) tYes te vs σ H Q := by
  refine hn _ ⟨n, rfl, h1, h2, fun p hp => ?_⟩
  refine lc_range (lo := 0) (Qd := fun H' => Q (.ref p) H') (P p) (h0 p hp) (fun i H' hi q => ?_) fun H' q => hd p H' hp q
  have e : (0 : Int) + (i : Int) = (i : Int) := Int.zero_add _
  rw [e]
  refine ⟨hw _, ?_⟩
  unfold tYes
  exact iteT (hs p i H' hp (by omega) q)
theorem x_lcL {ta : TE} {j : Nat} {te : TE} {vs : List Nat} {a : Addr} (xs : List V) (P : Addr → Nat → Hp → Prop) (hn : ∀ R : V → Hp → Prop, R (.ref a) H → ta σ H R) (ha : SqL K H a xs) (h0 : ∀ p, H p = none → P p 0 (upd H p (.lst [])))
    (hl : ∀ p i H', H p = none → i ≤ xs.length → P p i H' → SqL K H' a xs) (hw : ∀ x, wipe ((wipe σ vs).set j (some x)) vs = wipe σ vs)
    (hs : ∀ p (i : Nat) x H', H p = none → xs[i]? = some x → P p i H' → te ((wipe σ vs).set j (some x)) H' fun y H4 => ∃ acc, H4 p = some (.lst acc) ∧ acc.length < sizeLine ∧ P p (i + 1) (upd H4 p (.lst (acc ++ [y]))))
    (hd : ∀ p H', H p = none → P p xs.length H' → Q (.ref p) H') : tLc (iList K ta) (gName j) tYes te vs σ H Q := by
  refine hn _ ⟨a, rfl, ⟨xs, ha⟩, fun p hp => ?_⟩
  refine lc_list (xs := xs) (Qd := fun H' => Q (.ref p) H') (P p) (h0 p hp) (fun i H' hi q => hl p i H' hp hi q) (fun i x H' hi q => ?_) fun H' q => hd p H' hp q
  refine ⟨hw _, ?_⟩
  unfold tYes
  exact iteT (hs p i x H' hp hi q)
end
theorem x_gTup2 {K : PySem.W.Frag} {σ : L2.St} {H : Hp} {p : Addr} {x y : V} {i j : Nat} {R : L2.St → Hp → Prop} (hp : SqT K H p [x, y]) (h : R ((σ.set i (some x)).set j (some y)) H) : gTup K 2 (gCons (gName i) (gCons (gName j) gNil)) (.ref p) σ H R :=
  ⟨p, [x, y], rfl, hp, rfl, x, [y], rfl, y, [], rfl, rfl, h⟩
theorem sq_of {K : PySem.W.Frag} {H : Hp} {a : Addr} {xs : List V} (h : H a = some (.lst xs)) : SqL K H a xs := .inl (.inl h)
theorem st_of {K : PySem.W.Frag} {H : Hp} {a : Addr} {xs : List V} (h : H a = some (.tup xs)) : SqT K H a xs := .inl (.inl h)
theorem mul_r {i j : Int} (h1 : -(2 ^ 64) < j) (h2 : j < 2 ^ 64) : CMul i j := .inr ⟨h1, h2⟩
theorem mul_l {i j : Int} (h1 : -(2 ^ 64) < i) (h2 : i < 2 ^ 64) : CMul i j := .inl ⟨h1, h2⟩
theorem cr_isqrt {X : Cx} : CallR X (.builtin "math.isqrt") cr_isqrt_r := by
  intro pins s σ H vs us Q I r h
  obtain ⟨i, rfl, h0, h1, q⟩ := h
  cases r with
  | cons r1 rr =>
    cases rr
    obtain ⟨t, rfl⟩ := r1
    exact PySem.W.mg_isqrt h0 h1 ⟨.int _, H, I.tok _, ⟨_, rfl⟩, q⟩
/-- all but what stands at d is as it was -/
def Keep (d : Addr) (H H' : Hp) : Prop := ∀ b o, H b = some o → b ≠ d → H' b = some o
theorem Keep.refl (d : Addr) (H : Hp) : Keep d H H := fun _ _ h _ => h
theorem Keep.trans {d : Addr} {H H1 H2 : Hp} (a : Keep d H H1) (b : Keep d H1 H2) : Keep d H H2 := fun c o h n => b c o (a c o h n) n
theorem seqT {K : PySem.W.Frag} {H H' : Hp} {a : Addr} {xs : List V} (e : Same H H') (h : SqT K H a xs) : SqT K H' a xs := by
  rcases h with (h | ⟨o, h⟩) | h
  · exact .inl (.inl (e _ _ h))
  · exact .inl (.inr ⟨o, e _ _ h⟩)
  · exact .inr h
theorem sfree {H H' : Hp} (e : Same H H') {p : Addr} (h : H' p = none) : H p = none := e.free h
theorem sput {H H' : Hp} {p : Addr} {o : HO} (s : Same H H') (h : H p = none) : Same H (upd H' p o) := fun b x e => by
  rw [upd_ne (ne_of_none e h)]
  exact s b x e
theorem Same.tr {H H1 H2 : Hp} (a : Same H H1) (b : Same H1 H2) : Same H H2 := fun c o h => b c o (a c o h)
theorem Same.keep {d : Addr} {H H' : Hp} (a : Same H H') : Keep d H H' := fun c o h _ => a c o h
theorem same_upd {H : Hp} {p : Addr} {o : HO} (h : H p = none) : Same H (upd H p o) := fun b x e => by
  rw [upd_ne (ne_of_none e h)]
  exact e
theorem keep_upd {H : Hp} {p : Addr} {o : HO} : Keep p H (upd H p o) := fun b x e n => by
  rw [upd_ne n]
  exact e
/-- what is new may change -/
theorem Same.put {H H' : Hp} {p : Addr} {o : HO} (s : Same H H') (h : H p = none) : Same H (upd H' p o) := fun b x e => by
  rw [upd_ne (ne_of_none e h)]
  exact s b x e
theorem Keep.put {d : Addr} {H H' : Hp} {p : Addr} {o : HO} (s : Keep d H H') (h : H p = none) : Keep d H (upd H' p o) := fun b x e n => by
  rw [upd_ne (ne_of_none e h)]
  exact s b x e n
theorem Keep.seq {K : PySem.W.Frag} {d : Addr} {H H' : Hp} {a : Addr} {xs : List V} (e : Keep d H H') (n : a ≠ d) (h : SqL K H a xs) : SqL K H' a xs := by
  rcases h with (h | ⟨o, h⟩) | h
  · exact .inl (.inl (e _ _ h n))
  · exact .inl (.inr ⟨o, e _ _ h n⟩)
  · exact .inr h
/-- ints within bounds -/
def Rg (lo hi : Int) (ns : List Int) : Prop := ∀ z, z ∈ ns → lo ≤ z ∧ z < hi
theorem Rg.nil {lo hi : Int} : Rg lo hi [] := fun _ h => absurd h (by simp)
theorem Rg.app {lo hi : Int} {xs ys : List Int} (a : Rg lo hi xs) (b : Rg lo hi ys) : Rg lo hi (xs ++ ys) := fun z h => (List.mem_append.mp h).elim (a z) (b z)
theorem Rg.one {lo hi x : Int} (h1 : lo ≤ x) (h2 : x < hi) : Rg lo hi [x] := fun z h => by
  have e : z = x := by simpa using h
  subst e
  exact ⟨h1, h2⟩
theorem Rg.snoc {lo hi x : Int} {xs : List Int} (a : Rg lo hi xs) (h1 : lo ≤ x) (h2 : x < hi) : Rg lo hi (xs ++ [x]) := a.app (.one h1 h2)
theorem Rg.get {lo hi x : Int} {xs : List Int} {i : Nat} (a : Rg lo hi xs) (h : xs[i]? = some x) : lo ≤ x ∧ x < hi := a x (List.mem_of_getElem? h)
theorem map_get {ns : List Int} {i : Nat} {y : V} (h : (ns.map V.int)[i]? = some y) : ∃ z, ns[i]? = some z ∧ y = .int z := by
  rw [List.getElem?_map] at h
  cases e : ns[i]? with
  | none => rw [e] at h; cases h
  | some z => rw [e] at h; exact ⟨z, rfl, (Option.some.inj h).symm⟩
theorem gcd_step {a b : Int} : Int.gcd b (a % b) = Int.gcd a b := by
  rw [Int.emod_def, Int.gcd_sub_mul_left_right, Int.gcd_comm]
theorem half_step {a b : Int} (hb : 0 < b) (h : b < a) : b * (a % b) * 2 ≤ a * b := by
  have h1 := Int.emod_lt_of_pos a hb
  have h0 := Int.emod_nonneg a (show b ≠ 0 by omega)
  have h2 : b * (a / b) + a % b = a := Int.mul_ediv_add_emod a b
  have h3 : 1 ≤ a / b := (Int.le_ediv_iff_mul_le hb).mpr (by omega)
  have h4 : b * 1 ≤ b * (a / b) := Int.mul_le_mul_of_nonneg_left h3 (by omega)
  have h5 : a % b * 2 ≤ a := by omega
  have h6 : a % b * 2 * b ≤ a * b := Int.mul_le_mul_of_nonneg_right h5 (by omega)
  have e : b * (a % b) * 2 = a % b * 2 * b := by
    rw [Int.mul_comm b, Int.mul_assoc, Int.mul_assoc, Int.mul_comm b 2]
  omega
/-- an item of a written list -/
theorem at_lt {xs : List V} {i : Int} (h0 : 0 ≤ i) (h1 : i < (xs.length : Int)) : ∃ v, atI xs i = some v ∧ v ∈ xs := by
  obtain ⟨j, rfl⟩ : ∃ j : Nat, i = (j : Int) := ⟨i.toNat, by omega⟩
  have hj : j < xs.length := by omega
  exact ⟨xs[j], atI_nat (List.getElem?_eq_getElem hj), List.getElem_mem hj⟩
theorem map_getR {as : List Addr} {i : Nat} {v : V} (h : (as.map V.ref)[i]? = some v) : ∃ b, as[i]? = some b ∧ v = .ref b := by
  rw [List.getElem?_map] at h
  cases e : as[i]? with
  | none => rw [e] at h; cases h
  | some b => rw [e] at h; exact ⟨b, rfl, (Option.some.inj h).symm⟩
theorem kput {d : Addr} {H H' : Hp} {p : Addr} {o : HO} (s : Keep d H H') (h : H p = none) : Keep d H (upd H' p o) := s.put h
theorem snoc_at {α : Type} {xs : List α} {y z : α} {i j : Nat} (hl : xs.length = i) (h : (xs ++ [y])[j]? = some z) : (j < i ∧ xs[j]? = some z) ∨ (j = i ∧ z = y) := by
  by_cases hj : j < xs.length
  · rw [List.getElem?_append_left hj] at h
    exact .inl ⟨by omega, h⟩
  · have hlt := (List.getElem?_eq_some_iff.mp h).1
    rw [List.length_append] at hlt
    have e : j = xs.length := by simp at hlt; omega
    subst e
    rw [List.getElem?_append_right (Nat.le_refl _), Nat.sub_self] at h
    exact .inr ⟨hl, (Option.some.inj h).symm⟩
theorem lt_line {n : Nat} (h : n < 1000000) : n < sizeLine := Nat.lt_of_lt_of_le h (by decide)
/-- what is fresh may change -/
theorem same_keep {H H1 H2 : Hp} {l : Addr} (hl : H l = none) (s : Same H H1) (k : Keep l H1 H2) : Same H H2 := fun b o e => k b o (s b o e) (ne_of_none e hl)
theorem ixN_nat {n i : Nat} (h : i < n) : ixN n (i : Int) = some i := by
  unfold ixN
  grind
theorem cast_lt {x : Int} {c : Nat} (h0 : 0 ≤ x) (h1 : x < c) : ∃ t : Nat, x = (t : Int) ∧ t < c := ⟨x.toNat, by omega, by omega⟩
section
variable {σ : L2.St} {H : Hp} {Q : VK} {R : Option Int → Hp → Prop}
theorem x_sl2 {r : V → Option Int → Option Int → Hp → VK → Prop} {te : TE} {tl th : TO} (h : te σ H fun x H1 => tl σ H1 fun l H2 => th σ H2 fun u H3 => r x l u H3 Q) : tSl r te tl th σ H Q := h
theorem x_part0 (h : R none H) : tNoPart σ H R := h
theorem x_part1 {te : TE} (h : te σ H fun x H1 => ∃ i, x = .int i ∧ R (some i) H1) : tPart te σ H R := h
theorem x_cutL {K : PySem.W.Frag} {p : Addr} {xs : List V} {lo hi : Option Int} (hp : SqL K H p xs) (q : ∀ r, H r = none → Q (.ref r) (upd H r (.lst (cutV xs lo hi)))) : rSlL K (.ref p) lo hi H Q := ⟨p, xs, rfl, hp, q⟩
end
end Br

/-! ### zip of a list and a tuple -/
namespace Br
open PySem PySem.Spec PyProof.Rows L2
def ItzM (K : PySem.W.Frag) (a b : Addr) : It where
  go := fun i H => ∃ (xs ys : List V), SqL K H a xs ∧ SqT K H b ys ∧ i < xs.length ∧ i < ys.length
  yld := fun i H v H' => ∃ (p : Addr) (x y : V), v = .ref p ∧ H p = none ∧ H' = upd H p (.tup [x, y]) ∧ (∀ xs, SqL K H a xs → xs[i]? = some x) ∧ (∀ ys, SqT K H b ys → ys[i]? = some y)
  stop := fun i H => ∃ (xs ys : List V), SqL K H a xs ∧ SqT K H b ys ∧ i ≤ xs.length ∧ i ≤ ys.length ∧ (i = xs.length ∨ i = ys.length)
def MixSt (a b z p q i1 i2 : Addr) (i : Nat) (h : Heap) : Prop :=
  IsZip h z p q .none ∧ IsTupOf2 h p (.ref i1) (.ref i2) ∧ (∃ u v, IsTupOf2 h q u v) ∧ h.IsListIter i1 a i ∧ h.IsTupleIter i2 b i
theorem MixSt.sizes {a b z p q i1 i2 : Addr} {i : Nat} {h : Heap} (m : MixSt a b z p q i1 i2 i h) : z < h.objs.size ∧ p < h.objs.size ∧ q < h.objs.size ∧ i1 < h.objs.size ∧ i2 < h.objs.size := by
  obtain ⟨e1, e2, ⟨_, _, e3⟩, ⟨_, e4, _⟩, ⟨_, e5, _⟩⟩ := m
  exact ⟨Heap.lt_size e1, Heap.lt_size e2, Heap.lt_size e3, Heap.lt_size e4, Heap.lt_size e5⟩
theorem in5 {c z p q i1 i2 : Addr} (h : c ∈ [z, p, q, i1, i2]) : c = z ∨ c = p ∨ c = q ∨ c = i1 ∨ c = i2 := by simpa using h
theorem turn_mix {P : Program} {w : World} {K : PySem.W.Frag} {elts : List Expr} {kk : Nat} {tpos : Pos} {a b z p q i1 i2 : Addr} (S : ZipSep2 z p q i1 i2 [i1, a] [i2, b]) :
    Turn P w K (.Tuple elts kk tpos) (ItzM K a b) [z, p, q, i1, i2] z (MixSt a b z p q i1 i2) := by
  have ha : a ≠ i1 ∧ b ≠ i2 ∨ True := .inr trivial
  refine ⟨by simp, ?obj, ?keep, ?item, ?done, ?self⟩
  case obj =>
    intro i h st c hc
    obtain ⟨e1, e2, ⟨_, _, e3⟩, ⟨o4, e4, _, d4⟩, ⟨o5, e5, _, d5⟩⟩ := st
    rcases in5 hc with rfl | rfl | rfl | rfl | rfl
    · exact ⟨_, e1, fun _ z => nomatch z⟩
    · exact ⟨_, e2, fun _ z => nomatch z⟩
    · exact ⟨_, e3, fun _ z => nomatch z⟩
    · exact ⟨_, e4, fun _ z => by rw [d4] at z; cases z⟩
    · exact ⟨_, e5, fun _ z => by rw [d5] at z; cases z⟩
  case keep =>
    intro i h h' st k
    obtain ⟨e1, e2, ⟨u, v, e3⟩, e4, e5⟩ := st
    exact ⟨k _ (by simp) _ e1, k _ (by simp) _ e2, ⟨u, v, k _ (by simp) _ e3⟩, e4.at fun o => k _ (by simp) o, e5.at fun o => k _ (by simp) o⟩
  case item =>
    intro X hP hw hK hc i pins s σ H E I hf st hg
    subst hP hw hK
    have sz := st.sizes
    obtain ⟨e1, e2, ⟨u, v, e3⟩, e4, e5⟩ := st
    obtain ⟨xs, ys, hx, hy, lx, ly⟩ := hg
    obtain ⟨us, rx, p1, _⟩ := I.list hx
    obtain ⟨ws, ry, p2, _⟩ := I.tuple hy
    have nx := rx.length
    have ny := ry.length
    have hd : X.A.in1.handled = none := I.ok.hd hc
    have na : a ≠ i1 := fun e => by
      obtain ⟨o, eo, co, _⟩ := e4
      obtain ⟨o', _, eo', co', _⟩ := p1
      rw [e, eo] at eo'
      cases eo'
      rw [co] at co'
      simp at co'
    have nb : b ≠ i2 := fun e => by
      obtain ⟨o, eo, co, _⟩ := e5
      obtain ⟨o', eo', co', _⟩ := p2
      rw [e, eo] at eo'
      cases eo'
      rw [co] at co'
      simp at co'
    refine wpAny_pyNext_zipD2_item S (Draws.list hd i1 a na us.toArray) (Draws.tuple hd i2 b nb ws.toArray) e1 e2 e3 ⟨e4, p1.isList⟩ ⟨e5, p2⟩ (by simp; omega) (by simp; omega) ?_
    intro x1 x2 h1 tk q1 q2 z1 t1 s1 s2 nw hs hk
    refine ⟨_, rfl, wpAny_letOwnedTupleGo_zip (s := { s with heap := h1, toks := tk }) z1 fun h2 z2 sb => ?_⟩
    obtain ⟨x, gx⟩ : ∃ x, xs[i]? = some x := ⟨_, List.getElem?_eq_getElem lx⟩
    obtain ⟨y, gy⟩ : ∃ y, ys[i]? = some y := ⟨_, List.getElem?_eq_getElem ly⟩
    obtain ⟨ux, gux, rux⟩ := rx.get gx
    obtain ⟨uy, guy, ruy⟩ := ry.get gy
    have ex : x1 = ux := by
      rw [List.getElem?_toArray, gux] at q1
      exact (Option.some.inj q1).symm
    have ey : x2 = uy := by
      rw [List.getElem?_toArray, guy] at q2
      exact (Option.some.inj q2).symm
    subst ex ey
    have ne : ∀ {c : Addr}, c < s.heap.objs.size → s.heap.objs.size ≠ c := fun h => Nat.ne_of_gt h
    have new2 : h2.get? s.heap.objs.size = some { cls := .type "tuple", data := .seq #[x1, x2] } := (sb.2 _ (ne sz.1)).trans nw
    have kp : ∀ c o, c ∉ [z, p, q, i1, i2] → s.heap.get? c = some o → h2.get? c = some o := fun c o hc e => by
      have m : ∀ d, d ∈ [z, p, q, i1, i2] → c ≠ d := fun d hd e => hc (e ▸ hd)
      exact (sb.2 c (m z (by simp))).trans (hk c o (m z (by simp)) (m q (by simp)) (m i1 (by simp)) (m i2 (by simp)) e)
    have ok : ObjOk X.prog X.w (upd H s.heap.objs.size (.tup [x, y])) h2 s.heap.objs.size (.tup [x, y]) :=
      ⟨(show 2 ≤ sizeLine by decide), [x1, x2], .cons rux (.cons ruy .nil), ⟨_, new2, rfl, 0, rfl⟩⟩
    have J := I.turnedNew (t' := tk) kp hf (Nat.le_refl _) ok
    refine ⟨.ref s.heap.objs.size, _, J, rfl, ⟨_, x, y, rfl, I.hok.fresh (Nat.le_refl _), rfl, fun l hl => by rw [I.list_inj hl hx]; exact gx, fun l hl => by rw [I.tuple_inj hl hy]; exact gy⟩, ?_, fun c hcm => ?_⟩
    · refine ⟨z2, (sb.2 _ S.TIz).trans (hk _ _ S.TIz S.TITO S.TIi1 S.TIi2 e2), ⟨_, _, (sb.2 _ S.TOz).trans t1⟩, s1.1.at fun o e => (sb.2 _ S.zi1.symm).trans e, s2.1.at fun o e => (sb.2 _ S.zi2.symm).trans e⟩
    · rw [upd_ne]
      · exact (hf c hcm).1
      · rcases in5 hcm with rfl | rfl | rfl | rfl | rfl
        · exact (ne sz.1).symm
        · exact (ne sz.2.1).symm
        · exact (ne sz.2.2.1).symm
        · exact (ne sz.2.2.2.1).symm
        · exact (ne sz.2.2.2.2).symm
  case done =>
    intro X hP hw hK hc i pins s σ H E I hf st hg
    subst hP hw hK
    obtain ⟨e1, e2, ⟨u, v, e3⟩, e4, e5⟩ := st
    obtain ⟨xs, ys, hx, hy, lx, ly, hend⟩ := hg
    obtain ⟨us, rx, p1, _⟩ := I.list hx
    obtain ⟨ws, ry, p2, _⟩ := I.tuple hy
    have nx := rx.length
    have ny := ry.length
    have hd : X.A.in1.handled = none := I.ok.hd hc
    have na : a ≠ i1 := fun e => by
      obtain ⟨o, eo, co, _⟩ := e4
      obtain ⟨o', _, eo', co', _⟩ := p1
      rw [e, eo] at eo'
      cases eo'
      rw [co] at co'
      simp at co'
    have nb : b ≠ i2 := fun e => by
      obtain ⟨o, eo, co, _⟩ := e5
      obtain ⟨o', eo', co', _⟩ := p2
      rw [e, eo] at eo'
      cases eo'
      rw [co] at co'
      simp at co'
    refine wpAny_pyNext_zipD2_end S (Draws.list hd i1 a na us.toArray) (Draws.tuple hd i2 b nb ws.toArray) e1 e2 e3 ⟨e4, p1.isList⟩ ⟨e5, p2⟩ (by simp; omega) (by simp; omega) (by simp; omega) ?_
    intro h1 tk hk
    exact ⟨rfl, I.turnedL (t' := tk) (ch := [z, p, q, i1, i2]) (fun c o hc e => by
      have m : ∀ d, d ∈ [z, p, q, i1, i2] → c ≠ d := fun d hd e => hc (e ▸ hd)
      exact hk c o (m z (by simp)) (m q (by simp)) (m i1 (by simp)) (m i2 (by simp)) e) hf⟩
  case self => exact fun A i s Q E st h => wpAny_pyIter_zip st.1 h
def iZipM (K : PySem.W.Frag) (ta : TA) : TI := fun σ H R => ta σ H fun vs H1 => ∃ a b xs ys, vs = [.ref a, .ref b] ∧ SqL K H1 a xs ∧ SqT K H1 b ys ∧ R (ItzM K a b) H1
theorem pi_zipM {X : Cx} {e e2 : Expr} {ta : TA} {p pos tpos : Pos} {elts : List Expr} {kk : Nat} (hg : Gl X "zip") (hm : X.mg "zip" = none) (ha : PA X [e, e2] ta)
    (hs : starEach [e, e2] X.env = (false, eval e X.env) :: starEach [e2] X.env := by rfl) (hpl : (backTo pos (starEach [e2] X.env)).any (·.1) = false := by rfl) :
    PI X (.Tuple elts kk tpos) (.Call (.Name "zip" p) [e, e2] [] pos) (iZipM X.K ta) := by
  refine ⟨fun pins s σ H R I h => Call_ (ld_blt I hg hm PyProof.Rows.boot_zip (PyProof.Rows.callWith_type1 (thn (ha.run pos pins s σ H _ I h) ?_) hs hpl))⟩
  rintro us s1 ⟨vs, H1, I1, r1, a, b, xs, ys, rfl, hx, hy, go⟩
  obtain ⟨u1, u2, rfl, ra, rb⟩ : ∃ u1 u2, us = [u1, u2] ∧ RelV (.ref a) u1 ∧ RelV (.ref b) u2 := by
    cases r1 with
    | cons r rr =>
      cases rr with
      | cons r' rr =>
        cases rr
        exact ⟨_, _, rfl, r, r'⟩
  cases (show u1 = Value.ref a from ra)
  cases (show u2 = Value.ref b from rb)
  obtain ⟨us, rx, p1, _⟩ := I1.list hx
  obtain ⟨ws, ry, p2, _⟩ := I1.tuple hy
  have la : a < s1.heap.objs.size := p1.lt
  have lb : b < s1.heap.objs.size := by
    obtain ⟨_, e, _⟩ := id p2
    exact Heap.lt_size e
  refine zip_begins2 (begins_list a us.toArray) (begins_tuple b ws.toArray) p1.isList p2 ?_
  intro h1 hz hp hq g1 g2 hsz hk
  refine wpAny_pyIter_zip hz ?_
  have sep := zip_sep2 (N := s1.heap.objs.size) (fp1 := [a]) (fp2 := [b]) (fun c hc => by
    have e : c = a := by simpa using hc
    rw [e]; exact la) (fun c hc => by
    have e : c = b := by simpa using hc
    rw [e]; exact lb)
  refine ⟨_, _, _, _, H1, rfl, I1.kept (t' := s1.toks) hk, turn_mix sep, ⟨hz, hp, ⟨_, _, hq⟩, ⟨_, g1, rfl, rfl⟩, ⟨_, g2, rfl, rfl⟩⟩, fun c hc => ?_, go⟩
  have hle : s1.heap.objs.size ≤ c := by
    rcases in5 hc with e | e | e | e | e
    · rw [e]; exact Nat.le_add_right _ _
    · rw [e]; exact Nat.le_add_right _ _
    · rw [e]; exact Nat.le_add_right _ _
    · rw [e]; exact Nat.le_refl _
    · rw [e]; exact Nat.le_add_right _ _
  exact I1.fpOk hle (I1.hok.fresh hle)
theorem walk_mix {K : PySem.W.Frag} {a b : Addr} {xs ys : List V} {n : Nat} (h1 : xs.length = n) (h2 : ys.length = n) : Walk (ItzM K a b) n (fun H => SqL K H a xs ∧ SqT K H b ys) (YPair (fun i => xs[i]?) (fun i => ys[i]?)) := by
  refine ⟨fun i H hi q => ⟨xs, ys, q.1, q.2, by omega, by omega⟩, fun H q => ⟨xs, ys, q.1, q.2, by omega, by omega, by omega⟩, fun i H v H' hi q y => ?_⟩
  obtain ⟨p, x, y, e1, e2, e3, e4, e5⟩ := y
  exact ⟨p, x, y, e1, e2, e3, e4 _ q.1, e5 _ q.2⟩
/-- a for, a comprehension by a walk -/
theorem x_forI {wi : TI} {g : TG} {tb : TS} {D : Ends} {σ : L2.St} {H : Hp} {J : It} {n : Nat} {G : Hp → Prop} {Y : Nat → Hp → V → Hp → Prop} (hw : ∀ R : It → Hp → Prop, R J H → wi σ H R) (w : Walk J n G Y) (P : Nat → L2.St → Hp → Prop) (h0 : P 0 σ H)
    (hG : ∀ i σ' H', i ≤ n → P i σ' H' → G H') (hs : ∀ i x σ' H' H2, i < n → P i σ' H' → Y i H' x H2 → g x σ' H2 fun σ2 H3 => tb ⟨P (i + 1), D.rt, D.nx, P (i + 1)⟩ σ2 H3) (hd : ∀ σ' H', P n σ' H' → D.nx σ' H') : tFor wi g tb D σ H :=
  hw _ (for_it w P h0 hG hs hd)
theorem x_lcI {wi : TI} {g : TG} {te : TE} {vs : List Nat} {Q : VK} {σ : L2.St} {H : Hp} {J : It} {n : Nat} {G : Hp → Prop} {Y : Nat → Hp → V → Hp → Prop} (hw : ∀ R : It → Hp → Prop, R J H → wi σ H R) (w : Walk J n G Y) (P : Addr → Nat → Hp → Prop) (h0 : ∀ p, H p = none → P p 0 (upd H p (.lst [])))
    (hG : ∀ p i H', i ≤ n → H p = none → P p i H' → G H')
    (hs : ∀ p i x H' H2, i < n → H p = none → P p i H' → Y i H' x H2 → g x (wipe σ vs) H2 fun σ2 H3 => wipe σ2 vs = wipe σ vs ∧ te σ2 H3 fun y H4 => ∃ acc, H4 p = some (.lst acc) ∧ acc.length < sizeLine ∧ P p (i + 1) (upd H4 p (.lst (acc ++ [y]))))
    (hg : ∀ x σ' H' (R R' : L2.St → Hp → Prop), (∀ σ2 H2, R σ2 H2 → R' σ2 H2) → g x σ' H' R → g x σ' H' R') (hd : ∀ p H', H p = none → P p n H' → Q (.ref p) H') : tLc wi g tYes te vs σ H Q := by
  refine hw _ fun p hp => ?_
  refine lc_it w (Qd := fun H' => Q (.ref p) H') (P p) (h0 p hp) (fun i H' hi q => hG p i H' hi hp q) (fun i x H' H2 hi q y => ?_) fun H' q => hd p H' hp q
  refine hg _ _ _ _ _ (fun σ2 H3 z => ?_) (hs p i x H' H2 hi hp q y)
  refine ⟨z.1, ?_⟩
  unfold tYes
  exact iteT z.2
/-- a comprehension of truths, item by item -/
theorem x_lcB {wi : TI} {te : TE} {vs : List Nat} {j : Nat} {Q : VK} {σ : L2.St} {H : Hp} {J : It} {G : Hp → Prop} {xs : List V} (f : Nat → Bool) (hw : ∀ R : It → Hp → Prop, R J H → wi σ H R) (w : Walk J xs.length G (YAt xs)) (hn : xs.length ≤ 100000)
    (hG : ∀ H', Same H H' → G H') (hv : ∀ x, wipe ((wipe σ vs).set j (some x)) vs = wipe σ vs)
    (he : ∀ (i : Nat) x H', Same H H' → xs[i]? = some x → ∀ R : VK, (∀ H2, Same H' H2 → R (.bl (f i)) H2) → te ((wipe σ vs).set j (some x)) H' R)
    (hd : ∀ p H', H p = none → Same H H' → H' p = some (.lst (((List.range xs.length).map f).map V.bl)) → Q (.ref p) H') : tLc wi (gName j) tYes te vs σ H Q := by
  refine x_lcI hw w (fun p i H' => Same H H' ∧ H' p = some (.lst (((List.range i).map f).map V.bl))) (fun p hp => ⟨same_upd hp, upd_same⟩) (fun p i H' _ _ z => hG H' z.1) ?_ (fun x σ' H' R R' hr h => hr _ _ h) fun p H' hp z => hd p H' hp z.1 z.2
  rintro p i x H' H2 hi hp ⟨hs, hl⟩ ⟨rfl, hx⟩
  refine x_gName ⟨hv x, he i x _ hs hx _ fun H3 hs3 => ?_⟩
  refine ⟨_, hs3 _ _ hl, lt_line (by simp; omega), sput (hs.trans hs3) hp, ?_⟩
  rw [upd_same, List.range_succ, List.map_append, List.map_append]
  rfl
theorem x_all {K : PySem.W.Frag} {Q : VK} {H : Hp} {p : Addr} {bs : List Bool} (h : H p = some (.lst (bs.map V.bl))) (q : Q (.bl (bs.all id)) H) : rAll K [.ref p] H Q := ⟨p, bs, rfl, sq_of h, q⟩
theorem x_any {K : PySem.W.Frag} {Q : VK} {H : Hp} {p : Addr} {bs : List Bool} (h : H p = some (.lst (bs.map V.bl))) (q : Q (.bl (bs.any id)) H) : rAny K [.ref p] H Q := ⟨p, bs, rfl, sq_of h, q⟩
theorem all_range {n : Nat} {f : Nat → Bool} (h : ∀ i, i < n → f i = true) : ((List.range n).map f).all id = true := by
  rw [List.all_eq_true]
  intro b hb
  obtain ⟨i, hi, rfl⟩ := List.mem_map.mp hb
  exact h i (List.mem_range.mp hi)
/-- the same, over something made on the way -/
theorem x_lcB0 {wi : TI} {te : TE} {vs : List Nat} {j : Nat} {Q : VK} {σ : L2.St} {H : Hp} {xs : List V} (f : Nat → Bool) (hn : xs.length ≤ 100000)
    (hw : ∀ R : It → Hp → Prop, (∀ (J : It) (G : Hp → Prop) (H1 : Hp), Same H H1 → Walk J xs.length G (YAt xs) → (∀ H', Same H1 H' → G H') → R J H1) → wi σ H R) (hv : ∀ x, wipe ((wipe σ vs).set j (some x)) vs = wipe σ vs)
    (he : ∀ (i : Nat) x H', Same H H' → xs[i]? = some x → ∀ R : VK, (∀ H2, Same H' H2 → R (.bl (f i)) H2) → te ((wipe σ vs).set j (some x)) H' R)
    (hd : ∀ p H', Same H H' → H' p = some (.lst (((List.range xs.length).map f).map V.bl)) → Q (.ref p) H') : tLc wi (gName j) tYes te vs σ H Q := by
  refine hw _ fun J G H1 s1 w hG => ?_
  exact x_lcB (wi := fun _ H R => R J H) (H := H1) f (fun R r => r) w hn hG hv (fun i x H' s hx R hR => he i x H' (s1.trans s) hx R hR) fun p H' _ s h => hd p H' (s1.trans s) h
end Br

/-! ### what `_law_equal` finds alike -/
namespace Br
open PySem PySem.Spec PyProof.Rows L2
/-- alike up to a depth -/
def Eqv (K : PySem.W.Frag) (H : Hp) : Nat → V → V → Prop
  | 0, _, _ => False
  | n + 1, v, u => (∃ i : Int, v = .int i ∧ u = .int i) ∨ (∃ x : Str, v = .str x ∧ u = .str x) ∨ (∃ b : Bool, v = .bl b ∧ u = .bl b) ∨ (v = .non ∧ u = .non) ∨
      (∃ (a b : Addr) (xs ys : List V), v = .ref a ∧ u = .ref b ∧ ((H a = some (.lst xs) ∧ H b = some (.lst ys)) ∨ (H a = some (.tup xs) ∧ H b = some (.tup ys))) ∧ xs.length = ys.length ∧ ys.length ≤ 100000 ∧ ∀ (i : Nat) x y, xs[i]? = some x → ys[i]? = some y → Eqv K H n x y)
theorem Eqv.mono {K : PySem.W.Frag} {H : Hp} : ∀ {n m : Nat} {v u : V}, n ≤ m → Eqv K H n v u → Eqv K H m v u
  | 0, _, _, _, _, h => h.elim
  | n + 1, m, v, u, hm, h => by
    obtain ⟨k, rfl⟩ : ∃ k, m = k + 1 := ⟨m - 1, by omega⟩
    rcases h with h | h | h | h | ⟨a, b, xs, ys, e1, e2, e3, e4, e5, e6⟩
    · exact .inl h
    · exact .inr (.inl h)
    · exact .inr (.inr (.inl h))
    · exact .inr (.inr (.inr (.inl h)))
    · exact .inr (.inr (.inr (.inr ⟨a, b, xs, ys, e1, e2, e3, e4, e5, fun i x y h1 h2 => Eqv.mono (by omega) (e6 i x y h1 h2)⟩)))
theorem Eqv.int {K : PySem.W.Frag} {H : Hp} {n : Nat} {i : Int} : Eqv K H (n + 1) (.int i) (.int i) := .inl ⟨i, rfl, rfl⟩
theorem Eqv.str {K : PySem.W.Frag} {H : Hp} {n : Nat} {x : Str} : Eqv K H (n + 1) (.str x) (.str x) := .inr (.inl ⟨x, rfl, rfl⟩)
theorem Eqv.bl {K : PySem.W.Frag} {H : Hp} {n : Nat} {b : Bool} : Eqv K H (n + 1) (.bl b) (.bl b) := .inr (.inr (.inl ⟨b, rfl, rfl⟩))
theorem Eqv.non {K : PySem.W.Frag} {H : Hp} {n : Nat} : Eqv K H (n + 1) .non .non := .inr (.inr (.inr (.inl ⟨rfl, rfl⟩)))
theorem Eqv.tup {K : PySem.W.Frag} {H : Hp} {n : Nat} {a b : Addr} {xs ys : List V} (h1 : H a = some (.tup xs)) (h2 : H b = some (.tup ys)) (hl : xs.length = ys.length) (hz : ys.length ≤ 100000) (h : ∀ (i : Nat) x y, xs[i]? = some x → ys[i]? = some y → Eqv K H n x y) : Eqv K H (n + 1) (.ref a) (.ref b) :=
  .inr (.inr (.inr (.inr ⟨a, b, xs, ys, rfl, rfl, .inr ⟨h1, h2⟩, hl, hz, h⟩)))
theorem Eqv.lst {K : PySem.W.Frag} {H : Hp} {n : Nat} {a b : Addr} {xs ys : List V} (h1 : H a = some (.lst xs)) (h2 : H b = some (.lst ys)) (hl : xs.length = ys.length) (hz : ys.length ≤ 100000) (h : ∀ (i : Nat) x y, xs[i]? = some x → ys[i]? = some y → Eqv K H n x y) : Eqv K H (n + 1) (.ref a) (.ref b) :=
  .inr (.inr (.inr (.inr ⟨a, b, xs, ys, rfl, rfl, .inl ⟨h1, h2⟩, hl, hz, h⟩)))
theorem Eqv.ints {K : PySem.W.Frag} {H : Hp} {n : Nat} {a b : Addr} {xs : List Int} (h1 : H a = some (.lst (xs.map V.int))) (h2 : H b = some (.lst (xs.map V.int))) (hz : xs.length ≤ 100000) : Eqv K H (n + 2) (.ref a) (.ref b) :=
  Eqv.lst h1 h2 rfl (by rw [List.length_map]; exact hz) fun i x y e1 e2 => by
    rw [e1] at e2
    cases e2
    obtain ⟨z, _, rfl⟩ := map_get e1
    exact .int
/-- a tuple of few parts is alike to itself -/
theorem Eqv.self2 {K : PySem.W.Frag} {H : Hp} {n : Nat} {a : Addr} {xs : List V} (h1 : H a = some (.tup xs)) (hz : xs.length ≤ 100000) (h : ∀ x, x ∈ xs → Eqv K H n x x) : Eqv K H (n + 1) (.ref a) (.ref a) :=
  Eqv.tup h1 h1 rfl hz fun i x y e1 e2 => by
    rw [e1] at e2
    cases e2
    exact h x (List.mem_of_getElem? e1)
end Br

/-! ### max(xs, default=d) -/
namespace Br
open PySem PySem.Spec PyProof.Rows L2
theorem max_rawD {prog : Program} {w : World} {A : Around} {E : Value → Shared → Prop} {s : Shared} {l : Addr} {its : List Value} {ns : List Int} {d : Value} {Q : Value → Shared → Prop} (hh : A.handled = none) (hl : s.heap.IsList l its.toArray) (hi : IntsAre its ns)
    (h0 : ns = [] → ∀ h' tk, (∀ b o, s.heap.get? b = some o → h'.get? b = some o) → Q d { s with heap := h', toks := tk })
    (h : ∀ h' tk M t', (∀ b o, s.heap.get? b = some o → h'.get? b = some o) → M ∈ ns → (∀ a, a ∈ ns → a ≤ M) → Q (.int M t') { s with heap := h', toks := tk }) : wpAny (model prog w) A (call (.builtin "max") [.ref l] [(Str.ofString "default", d)]) Q E s := by
  obtain ⟨xs, e⟩ := hi.allInts.items
  have hn : numsOf (intItems xs).toList = ns := by rw [← e]; exact hi.numsOf
  rw [nums_intItems] at hn
  subst hn
  rw [e] at hl
  refine call_max_walkD (iter_intList hl fun s₂ e2 st hfp hlI => ?_)
  have keep : ∀ {s' : Shared}, Moved [s.heap.objs.size] (fun a b => b = a) s₂ s' → (∀ b o, s.heap.get? b = some o → s'.heap.get? b = some o) ∧ s' = { s with heap := s'.heap, toks := s'.toks } := by
    intro s' m
    subst e2
    refine ⟨fun b o eb => m.heap b o (fun hb => ?_) (Heap.get?_push_of_some _ eb), ?_⟩
    · have : b = s.heap.objs.size := by simpa using hb
      exact absurd (Heap.lt_size eb) (by rw [this]; exact Nat.lt_irrefl _)
    · have h1 := m.gens
      have h2 := m.drawn
      have h3 := m.os
      cases s'
      cases s
      simp at h1 h2 h3 ⊢
      exact ⟨h1, h2, h3⟩
  refine ⟨_, _, _, _, _, _, _, s.heap, fun i j => decide (numAt xs i > numAt xs j), rfl, (Walks.list (A := A.in1) hh _ l hlI (intItems xs)).toS, st, hfp, ?_, ?_, ?_, ?_⟩
  · intro b o eb hb
    have : b = s.heap.objs.size := by simpa using hb
    exact absurd (Heap.lt_size eb) (by rw [this]; exact Nat.lt_irrefl _)
  · intro b o eb
    subst e2
    exact Heap.get?_push_of_some _ eb
  · intro hz s' m
    obtain ⟨k1, k2⟩ := keep m
    rw [k2]
    refine h0 ?_ _ _ k1
    have : xs.size = 0 := by simpa [intItems] using hz
    have : xs = #[] := Array.eq_empty_of_size_eq_zero this
    rw [this]
    rfl
  · intro hz
    have hsz : 0 < xs.size := by simpa [intItems] using hz
    refine ⟨fun i j vi vj s' Q' E' _ h1 h2 h3 => CmpOf.ints_gt (numAt xs) (fun _ _ => intItems_at) i j vi vj s' Q' E' h1 h2 h3, fun v s' hP m => ?_⟩
    obtain ⟨k1, k2⟩ := keep m
    rw [k2]
    have hP : (intItems xs)[argBest (fun i j => decide (numAt xs i > numAt xs j)) (xs.size - 1)]? = some v := by simpa [intItems] using hP
    obtain ⟨t, rfl⟩ := intItems_at hP
    obtain ⟨h1, h2⟩ := argBest_gt (numAt xs) (xs.size - 1)
    refine h _ _ _ t k1 ?_ fun a ha => ?_
    · rw [numAt_eq]; exact PySem.getD_mem (by rw [List.length_map, Array.length_toList]; omega)
    · obtain ⟨j, hj, rfl⟩ := mem_getD ha
      rw [List.length_map, Array.length_toList] at hj
      rw [← numAt_eq]; exact h2 j (by omega)
/-- max(xs, default=z): z the default -/
def rMaxDf (K : PySem.W.Frag) : List V → List V → Hp → VK → Prop := fun vs zs H Q => ∃ (a : Addr) (ns : List Int) (d : Int), vs = [V.ref a] ∧ zs = [.int d] ∧ SqL K H a (ns.map V.int) ∧ (ns = [] → Q (.int d) H) ∧ ∀ m, m ∈ ns → (∀ y, y ∈ ns → y ≤ m) → Q (.int m) H
theorem cr_maxDf {X : Cx} (hc : X.calm = true) : CallRK X (.builtin "max") [Str.ofString "default"] (rMaxDf X.K) := by
  intro pins s σ H xs zs us ws Q I r1 r2 h
  obtain ⟨a, ns, d, rfl, rfl, hs, q0, q⟩ := h
  obtain ⟨its, rv, hl, _⟩ := I.list hs
  rw [Vals.ref1 r1]
  cases r2 with
  | cons rz rr =>
    cases rr
    exact max_rawD (I.ok.hd hc) hl.isList rv.ints (fun e h' tk hk => ⟨.int d, H, I.kept hk, rz, q0 e⟩) fun h' tk m t' hk h1 h2 => ⟨.int _, H, I.kept hk, ⟨_, rfl⟩, q m h1 h2⟩
theorem x_maxDf {K : PySem.W.Frag} {σ : L2.St} {H : Hp} {Q : VK} {t tk : TA} (h : t σ H fun vs H1 => tk σ H1 fun zs H2 => rMaxDf K vs zs H2 Q) : tCKw (rMaxDf K) t tk σ H Q := h
/-- what is walked within a comprehension, the written part named -/
theorem pi_tupK {X : Cx} {tg : Expr} {K2 : PySem.W.Frag} {l : Expr} {tl : TE} (hK : X.K = K2) (hl : PE X l tl) : PI X tg l (iTup K2 tl) := by
  subst hK
  exact pi_tup hl
theorem pi_listK {X : Cx} {tg : Expr} {K2 : PySem.W.Frag} {l : Expr} {tl : TE} (hK : X.K = K2) (hl : PE X l tl) : PI X tg l (iList K2 tl) := by
  subst hK
  exact pi_list hl
theorem x_maxDfP {K : PySem.W.Frag} {H : Hp} {Q : VK} {a : Addr} {ns : List Int} {d : Int} (hs : SqL K H a (ns.map V.int)) (h : ∀ m, (ns = [] ∧ m = d) ∨ (m ∈ ns ∧ ∀ y, y ∈ ns → y ≤ m) → Q (.int m) H) : rMaxDf K [.ref a] [.int d] H Q :=
  ⟨a, ns, d, rfl, rfl, hs, fun e => h d (.inl ⟨e, rfl⟩), fun m h1 h2 => h m (.inr ⟨h1, h2⟩)⟩
end Br

/-! ### data of any kind in the heap, apart from one list -/
namespace Br
open PySem PySem.Spec PyProof.Rows L2
mutual
inductive DAt (d : Addr) (H : Hp) : V → PyData → Prop
  | non : DAt d H .non .none
  | bl (b : Bool) : DAt d H (.bl b) (.bool b)
  | int (i : Int) : DAt d H (.int i) (.int i)
  | str (x : Str) : DAt d H (.str x) (.str x)
  | lst {a : Addr} {xs : List V} {ds : List PyData} (hd : a ≠ d) (h : H a = some (.lst xs)) (hs : DAts d H xs ds) : DAt d H (.ref a) (.list ds)
  | tup {a : Addr} {xs : List V} {ds : List PyData} (h : H a = some (.tup xs)) (hs : DAts d H xs ds) : DAt d H (.ref a) (.tuple ds)
inductive DAts (d : Addr) (H : Hp) : List V → List PyData → Prop
  | nil : DAts d H [] []
  | cons {v : V} {vs : List V} {e : PyData} {es : List PyData} (h : DAt d H v e) (hs : DAts d H vs es) : DAts d H (v :: vs) (e :: es)
end
section
variable {d : Addr} {H H' : Hp}
theorem DAts.len : ∀ {xs : List V} {ds : List PyData}, DAts d H xs ds → xs.length = ds.length
  | [], _, h => by cases h; rfl
  | _ :: xs, _, h => by
    cases h with
    | cons h hs => exact congrArg (· + 1) hs.len
theorem DAts.get : ∀ {xs : List V} {ds : List PyData}, DAts d H xs ds → ∀ {i : Nat} {x : V}, xs[i]? = some x → ∃ e, ds[i]? = some e ∧ DAt d H x e
  | [], _, _, i, x, e => by simp at e
  | v :: xs, _, h, i, x, e => by
    cases h with
    | cons h hs =>
      cases i with
      | zero => cases e; exact ⟨_, rfl, h⟩
      | succ i => exact hs.get (i := i) (by simpa using e)
theorem DAts.of : ∀ {xs : List V} {ds : List PyData}, xs.length = ds.length → (∀ (i : Nat) x e, xs[i]? = some x → ds[i]? = some e → DAt d H x e) → DAts d H xs ds
  | [], [], _, _ => .nil
  | v :: xs, e :: ds, hl, h => .cons (h 0 v e rfl rfl) (DAts.of (by simpa using hl) fun i x f h1 h2 => h (i + 1) x f (by simpa using h1) (by simpa using h2))
  | [], _ :: _, hl, _ => by simp at hl
  | _ :: _, [], hl, _ => by simp at hl
theorem DAts.snoc : ∀ {xs : List V} {ds : List PyData} {v : V} {e : PyData}, DAts d H xs ds → DAt d H v e → DAts d H (xs ++ [v]) (ds ++ [e])
  | [], _, v, e, h, h1 => by cases h; exact .cons h1 .nil
  | _ :: xs, _, v, e, h, h1 => by
    cases h with
    | cons h hs => exact .cons h (hs.snoc h1)
theorem DAts.app : ∀ {xs ys : List V} {ds es : List PyData}, DAts d H xs ds → DAts d H ys es → DAts d H (xs ++ ys) (ds ++ es)
  | [], _, _, _, h, h1 => by cases h; exact h1
  | _ :: xs, _, _, _, h, h1 => by
    cases h with
    | cons h hs => exact .cons h (hs.app h1)
mutual
theorem DAt.keep (hd : ∃ ys, H d = some (.lst ys)) (k : Keep d H H') : ∀ (e : PyData) {v : V}, DAt d H v e → DAt d H' v e
  | .none, _, h => by cases h; exact .non
  | .bool b, _, h => by cases h; exact .bl b
  | .int i, _, h => by cases h; exact .int i
  | .str x, _, h => by cases h; exact .str x
  | .list ds, _, h => by
    cases h with
    | lst hn h hs => exact .lst hn (k _ _ h hn) (DAts.keep hd k ds hs)
  | .tuple ds, _, h => by
    obtain ⟨ys, hd'⟩ := id hd
    cases h with
    | tup h hs => exact .tup (k _ _ h (ne_of h hd' (by intro z; cases z))) (DAts.keep hd k ds hs)
  | .dict _, _, h => by cases h
theorem DAts.keep (hd : ∃ ys, H d = some (.lst ys)) (k : Keep d H H') : ∀ (es : List PyData) {vs : List V}, DAts d H vs es → DAts d H' vs es
  | [], _, h => by cases h; exact .nil
  | e :: es, _, h => by
    cases h with
    | cons h hs => exact .cons (DAt.keep hd k e h) (DAts.keep hd k es hs)
end
mutual
theorem DAt.same (k : Same H H') : ∀ (e : PyData) {v : V}, DAt d H v e → DAt d H' v e
  | .none, _, h => by cases h; exact .non
  | .bool b, _, h => by cases h; exact .bl b
  | .int i, _, h => by cases h; exact .int i
  | .str x, _, h => by cases h; exact .str x
  | .list ds, _, h => by
    cases h with
    | lst hn h hs => exact .lst hn (k _ _ h) (DAts.same k ds hs)
  | .tuple ds, _, h => by
    cases h with
    | tup h hs => exact .tup (k _ _ h) (DAts.same k ds hs)
  | .dict _, _, h => by cases h
theorem DAts.same (k : Same H H') : ∀ (es : List PyData) {vs : List V}, DAts d H vs es → DAts d H' vs es
  | [], _, h => by cases h; exact .nil
  | e :: es, _, h => by
    cases h with
    | cons h hs => exact .cons (DAt.same k e h) (DAts.same k es hs)
end
theorem DAts.ints : ∀ {ns : List Int}, DAts d H (ns.map V.int) (ns.map PyData.int)
  | [] => .nil
  | i :: ns => .cons (.int i) DAts.ints
theorem DAts.bls : ∀ {bs : List Bool}, DAts d H (bs.map V.bl) (bs.map PyData.bool)
  | [] => .nil
  | b :: bs => .cons (.bl b) DAts.bls
/-- is it an integer from 0 to b - 1 -/
def isBD (b : Int) : PyData → Bool
  | .int i => decide (0 ≤ i) && decide (i < b)
  | _ => false
theorem isBD_iff {b : Int} {e : PyData} : isBD b e = true ↔ ∃ i, e = .int i ∧ 0 ≤ i ∧ i < b := by
  cases e with
  | int i =>
    show (decide (0 ≤ i) && decide (i < b)) = true ↔ _
    rw [Bool.and_eq_true, decide_eq_true_iff, decide_eq_true_iff]
    exact ⟨fun h => ⟨i, rfl, h⟩, fun ⟨j, e, h⟩ => by cases e; exact h⟩
  | _ => exact ⟨fun h => (by cases h), fun h => (by obtain ⟨_, h, _⟩ := h; cases h)⟩
def isBlD : PyData → Bool
  | .bool _ => true
  | _ => false
end
end Br

/-! ### gates as data, and what they do -/
namespace Br
open PySem PySem.Spec PyProof.Rows L2
abbrev Gt := Nat × List Nat
def perfG (bs : List Bool) (g : Gt) : List Bool := if g.2.all (fun c => bs.getD c false) then bs.set g.1 (!bs.getD g.1 false) else bs
def perfF (gs : List Gt) (bs : List Bool) : List Bool := gs.foldl perfG bs
structure GtOk (n : Nat) (g : Gt) : Prop where
  t : g.1 < n
  c : ∀ x, x ∈ g.2 → x < n
  ne : g.1 ∉ g.2
  up : g.2.Pairwise (· < ·)
theorem GtOk.mono {n m : Nat} {g : Gt} (h : GtOk n g) (l : n ≤ m) : GtOk m g := ⟨Nat.lt_of_lt_of_le h.t l, fun x hx => Nat.lt_of_lt_of_le (h.c x hx) l, h.ne, h.up⟩
theorem perfG_len {bs : List Bool} {g : Gt} : (perfG bs g).length = bs.length := by
  unfold perfG
  split
  · rw [List.length_set]
  · rfl
theorem perfF_len : ∀ {gs : List Gt} {bs : List Bool}, (perfF gs bs).length = bs.length
  | [], _ => rfl
  | g :: gs, bs => (perfF_len (gs := gs) (bs := perfG bs g)).trans perfG_len
theorem perfF_snoc {gs : List Gt} {g : Gt} {bs : List Bool} : perfF (gs ++ [g]) bs = perfG (perfF gs bs) g := by
  unfold perfF
  rw [List.foldl_append]
  rfl
theorem getD_setB {bs : List Bool} {i j : Nat} {b : Bool} (h : i ≠ j) : (bs.set i b).getD j false = bs.getD j false := by
  rw [List.getD_eq_getElem?_getD, List.getD_eq_getElem?_getD, List.getElem?_set_ne h]
theorem perfG_twice {n : Nat} {bs : List Bool} {g : Gt} (ok : GtOk n g) (hn : n ≤ bs.length) : perfG (perfG bs g) g = bs := by
  have ht := Nat.lt_of_lt_of_le ok.t hn
  by_cases h : g.2.all (fun c => bs.getD c false) = true
  · have e : perfG bs g = bs.set g.1 (!bs.getD g.1 false) := by unfold perfG; rw [if_pos h]
    rw [e]
    unfold perfG
    rw [if_pos]
    · apply List.ext_getElem?
      intro j
      by_cases hj : g.1 = j
      · subst hj
        have h1 : g.1 < (bs.set g.1 (!bs.getD g.1 false)).length := by rw [List.length_set]; exact ht
        rw [List.getElem?_set_self h1, List.getD_eq_getElem?_getD (l := bs.set _ _), List.getElem?_set_self ht, List.getD_eq_getElem?_getD, List.getElem?_eq_getElem ht]
        simp
      · rw [List.getElem?_set_ne hj, List.getElem?_set_ne hj]
    · rw [List.all_eq_true] at h ⊢
      intro c hc
      rw [getD_setB (fun e => ok.ne (by rw [e]; exact hc))]
      exact h c hc
  · have e : perfG bs g = bs := by unfold perfG; rw [if_neg h]
    rw [e, e]
theorem perfF_rev {n : Nat} : ∀ {gs : List Gt} {bs : List Bool}, (∀ g, g ∈ gs → GtOk n g) → n ≤ bs.length → perfF gs.reverse (perfF gs bs) = bs
  | [], _, _, _ => rfl
  | g :: gs, bs, ok, hn => by
    rw [List.reverse_cons, perfF_snoc]
    show perfG (perfF gs.reverse (perfF gs (perfG bs g))) g = bs
    rw [perfF_rev (fun x hx => ok x (List.mem_cons_of_mem _ hx)) (by rw [perfG_len]; exact hn)]
    exact perfG_twice (ok g List.mem_cons_self) hn
def cInts (cs : List Nat) : List V := cs.map fun (c : Nat) => V.int (c : Int)
def GtAt (H : Hp) (a : Addr) (g : Gt) : Prop := ∃ c : Addr, H a = some (.tup [.int (g.1 : Int), .ref c]) ∧ H c = some (.tup (cInts g.2))
def gtD (g : Gt) : PyData := .tuple [.int (g.1 : Int), .tuple (g.2.map fun (c : Nat) => PyData.int (c : Int))]
theorem GtAt.tups {H H' : Hp} {a : Addr} {g : Gt} (h : GtAt H a g) (k : ∀ b xs, H b = some (.tup xs) → H' b = some (.tup xs)) : GtAt H' a g := by
  obtain ⟨c, h1, h2⟩ := h
  exact ⟨c, k _ _ h1, k _ _ h2⟩
theorem cInts_at {d : Addr} {H : Hp} : ∀ {cs : List Nat}, DAts d H (cInts cs) (cs.map fun (c : Nat) => PyData.int (c : Int))
  | [] => .nil
  | c :: cs => .cons (.int _) cInts_at
theorem GtAt.dat {d a : Addr} {H : Hp} {g : Gt} (h : GtAt H a g) : DAt d H (.ref a) (gtD g) := by
  obtain ⟨c, h1, h2⟩ := h
  exact .tup h1 (.cons (.int _) (.cons (.tup h2 cInts_at) .nil))
/-- rising bits below 120, behind the last one -/
def risF : Int → List PyData → Bool
  | _, [] => true
  | l, .int i :: es => (decide (0 ≤ i) && decide (i < 120)) && (decide (l < i) && risF i es)
  | _, _ :: _ => false
def risD : PyData → Bool
  | .tuple es => risF (-1) es
  | _ => false
def hasD (e : PyData) (es : List PyData) : Bool := es.any fun x => match x, e with | .int i, .int j => decide (i = j) | _, _ => false
def gateD : PyData → Bool
  | .tuple [t, .tuple es] => isBD 120 t && (risF (-1) es && !hasD t es)
  | _ => false
def gatesD : PyData → Bool
  | .list es => decide (es.length ≤ 60000) && es.all gateD
  | _ => false
theorem risF_ok : ∀ {cs : List Nat} {l : Int}, cs.Pairwise (· < ·) → (∀ c, c ∈ cs → c < 120 ∧ l < (c : Int)) → risF l (cs.map fun (c : Nat) => PyData.int (c : Int)) = true
  | [], _, _, _ => rfl
  | c :: cs, l, hp, h => by
    obtain ⟨h1, h2⟩ := h c List.mem_cons_self
    show ((decide (0 ≤ (c : Int)) && decide ((c : Int) < 120)) && (decide (l < (c : Int)) && _)) = true
    rw [decide_eq_true (by omega), decide_eq_true (by omega), decide_eq_true h2]
    rw [List.pairwise_cons] at hp
    exact risF_ok hp.2 fun x hx => ⟨(h x (List.mem_cons_of_mem _ hx)).1, by have := hp.1 x hx; omega⟩
theorem gateD_ok {g : Gt} (ok : GtOk 120 g) : gateD (gtD g) = true := by
  show (isBD 120 (.int (g.1 : Int)) && (risF (-1) (g.2.map fun (c : Nat) => PyData.int (c : Int)) && !hasD (.int (g.1 : Int)) (g.2.map fun (c : Nat) => PyData.int (c : Int)))) = true
  have h1 : isBD 120 (.int (g.1 : Int)) = true := isBD_iff.mpr ⟨_, rfl, by omega, by have := ok.t; omega⟩
  have h2 := risF_ok (l := -1) ok.up fun c hc => ⟨ok.c c hc, by omega⟩
  have h3 : hasD (.int (g.1 : Int)) (g.2.map fun (c : Nat) => PyData.int (c : Int)) = false := by
    unfold hasD
    rw [List.any_eq_false]
    intro x hx
    obtain ⟨c, hc, rfl⟩ := List.mem_map.mp hx
    have hne : (c : Int) ≠ (g.1 : Int) := fun e => ok.ne (by have : c = g.1 := by omega
                                                             rw [← this]; exact hc)
    show ¬ decide ((c : Int) = (g.1 : Int)) = true
    rw [decide_eq_false hne]
    decide
  rw [h1, h2, h3]
  rfl
/-- the bits that a gate touches -/
def topG (g : Gt) : Nat := g.2.foldr max g.1 + 1
theorem foldr_max {cs : List Nat} {t : Nat} : t ≤ cs.foldr max t ∧ (∀ c, c ∈ cs → c ≤ cs.foldr max t) ∧ (cs.foldr max t = t ∨ cs.foldr max t ∈ cs) := by
  induction cs with
  | nil => exact ⟨Nat.le_refl _, fun c h => by simp at h, .inl rfl⟩
  | cons c cs ih =>
    obtain ⟨h1, h2, h3⟩ := ih
    show t ≤ max c _ ∧ _ ∧ _
    refine ⟨by omega, fun x hx => ?_, ?_⟩
    · rcases List.mem_cons.mp hx with rfl | hx
      · exact Nat.le_max_left _ _
      · exact Nat.le_trans (h2 x hx) (Nat.le_max_right _ _)
    · show max c _ = t ∨ max c _ ∈ _
      rcases Nat.le_total c (cs.foldr max t) with h | h
      · rw [Nat.max_eq_right h]
        rcases h3 with h3 | h3
        · exact .inl h3
        · exact .inr (List.mem_cons_of_mem _ h3)
      · rw [Nat.max_eq_left h]
        exact .inr List.mem_cons_self
theorem topG_le {n : Nat} {g : Gt} (ok : GtOk n g) : topG g ≤ n := by
  unfold topG
  rcases (foldr_max (cs := g.2) (t := g.1)).2.2 with h | h
  · rw [h]; exact ok.t
  · exact ok.c _ h
theorem up_len {n : Nat} : ∀ {cs : List Nat} {l : Nat}, cs.Pairwise (· < ·) → (∀ c, c ∈ cs → l ≤ c ∧ c < n) → cs.length ≤ n - l
  | [], _, _, _ => Nat.zero_le _
  | c :: cs, l, hp, h => by
    rw [List.pairwise_cons] at hp
    obtain ⟨h1, h2⟩ := h c List.mem_cons_self
    have := up_len (l := c + 1) hp.2 fun x hx => ⟨hp.1 x hx, (h x (List.mem_cons_of_mem _ hx)).2⟩
    rw [List.length_cons]
    omega
theorem GtOk.len {n : Nat} {g : Gt} (h : GtOk n g) : g.2.length ≤ n := by
  have := up_len (l := 0) h.up fun c hc => ⟨Nat.zero_le _, h.c c hc⟩
  omega
theorem cInts_get {cs : List Nat} {i : Nat} {x : V} (hx : (cInts cs)[i]? = some x) : ∃ m : Nat, cs[i]? = some m ∧ x = .int (m : Int) := by
  unfold cInts at hx
  rw [List.getElem?_map] at hx
  cases e : cs[i]? with
  | none => rw [e] at hx; cases hx
  | some n => rw [e] at hx; exact ⟨n, rfl, (Option.some.inj hx).symm⟩
end Br

/-! ### bits, many gates; comprehensions with a test -/
namespace Br
open PySem PySem.Spec PyProof.Rows L2
theorem x_max {σ : L2.St} {H : Hp} {Q : VK} {K : PySem.W.Frag} {p : Addr} {ns : List Int} (hp : SqL K H p (ns.map V.int)) (h0 : 0 < ns.length) (q : ∀ m, m ∈ ns → (∀ y, y ∈ ns → y ≤ m) → Q (.int m) H) : rMax K [.ref p] H Q := ⟨p, ns, rfl, hp, h0, q⟩
theorem cInts_eq {cs : List Nat} : cInts cs = (cs.map fun (c : Nat) => (c : Int)).map V.int := by
  unfold cInts
  rw [List.map_map]
  rfl
theorem x_listT {K : PySem.W.Frag} {H : Hp} {Q : VK} {p : Addr} {xs : List V} (hp : SqT K H p xs) (q : ∀ l, H l = none → Q (.ref l) (L2.upd H l (.lst xs))) : rListOf K [.ref p] H Q := ⟨p, xs, rfl, .inr hp, q⟩
def bls (bs : List Bool) : List V := bs.map V.bl
theorem bls_get {bs : List Bool} {i : Nat} (h : i < bs.length) : (bls bs)[i]? = some (.bl (bs.getD i false)) := by
  unfold bls
  rw [List.getElem?_map, List.getElem?_eq_getElem h, List.getD_eq_getElem?_getD, List.getElem?_eq_getElem h]
  rfl
theorem bls_set {bs : List Bool} {i : Nat} {b : Bool} : (bls bs).set i (.bl b) = bls (bs.set i b) := by
  unfold bls
  rw [List.map_set]
theorem bls_len {bs : List Bool} : (bls bs).length = bs.length := by unfold bls; rw [List.length_map]
/-- many gates -/
def GtsAt (H : Hp) (as : List Addr) (gs : List Gt) : Prop := as.length = gs.length ∧ ∀ (i : Nat) x b, gs[i]? = some x → as[i]? = some b → GtAt H b x
theorem GtsAt.tups {H H' : Hp} {as : List Addr} {gs : List Gt} (h : GtsAt H as gs) (k : ∀ b xs, H b = some (.tup xs) → H' b = some (.tup xs)) : GtsAt H' as gs := ⟨h.1, fun i x b e1 e2 => (h.2 i x b e1 e2).tups k⟩
theorem GtsAt.get {H : Hp} {as : List Addr} {gs : List Gt} (h : GtsAt H as gs) {i : Nat} {b : Addr} (e : as[i]? = some b) : ∃ x, gs[i]? = some x ∧ GtAt H b x := by
  have hl := (List.getElem?_eq_some_iff.mp e).1
  have hl2 : i < gs.length := by rw [← h.1]; exact hl
  exact ⟨_, List.getElem?_eq_getElem hl2, h.2 i _ b (List.getElem?_eq_getElem hl2) e⟩
theorem take_snocG {α : Type} {ss : List α} {i : Nat} {s : α} (h : ss[i]? = some s) : ss.take (i + 1) = ss.take i ++ [s] := by rw [List.take_add_one, h]; rfl
/-- a comprehension over a tuple, with a test, that keeps the items that meet it -/
theorem x_lcTT {K : PySem.W.Frag} {σ : L2.St} {H : Hp} {Q : VK} {ta : TE} {tt : TT} {te : TE} {j : Nat} {vs : List Nat} {a : Addr} (xs : List V) (P : Addr → Nat → Hp → Prop) (hn : ∀ R : V → Hp → Prop, R (.ref a) H → ta σ H R) (ha : SqT K H a xs) (h0 : ∀ p, H p = none → P p 0 (L2.upd H p (.lst [])))
    (hl : ∀ p i H', H p = none → i ≤ xs.length → P p i H' → SqT K H' a xs) (hw : ∀ x, wipe ((wipe σ vs).set j (some x)) vs = wipe σ vs)
    (hs : ∀ p (i : Nat) x H', H p = none → xs[i]? = some x → P p i H' → tt ((wipe σ vs).set j (some x)) H' fun b H3 => if b = true then te ((wipe σ vs).set j (some x)) H3 fun y H4 => ∃ acc, H4 p = some (.lst acc) ∧ acc.length < sizeLine ∧ P p (i + 1) (L2.upd H4 p (.lst (acc ++ [y]))) else P p (i + 1) H3)
    (hd : ∀ p H', H p = none → P p xs.length H' → Q (.ref p) H') : tLc (iTup K ta) (gName j) tt te vs σ H Q := by
  refine hn _ ⟨a, rfl, ⟨xs, ha⟩, fun p hp => ?_⟩
  refine lc_tup (xs := xs) (Qd := fun H' => Q (.ref p) H') (P p) (h0 p hp) (fun i H' hi q => hl p i H' hp hi q) (fun i x H' hi q => ?_) fun H' q => hd p H' hp q
  exact ⟨hw _, hs p i x H' hp hi q⟩
theorem x_lcPreT {σ : L2.St} {H : Hp} {Q : VK} {ta : TE} {j : Nat} {tt : TT} {te : TE} {vs : List Nat} (h : ta σ H fun v H1 => tLc (iRng1 (tCons (tC v) tNil)) (gName j) tt te vs σ H1 Q) : tLc (iRng1 (tCons ta tNil)) (gName j) tt te vs σ H Q := h
/-- a comprehension over a range, with a test -/
theorem x_lcRT {σ : L2.St} {H : Hp} {Q : VK} {ta : TE} {tt : TT} {j : Nat} {te : TE} {vs : List Nat} (n : Int) (P : Addr → Nat → Hp → Prop) (hn : ∀ R : V → Hp → Prop, R (.int n) H → ta σ H R) (h1 : -(2 ^ 62) ≤ n) (h2 : n < 2 ^ 62) (h0 : ∀ p, H p = none → P p 0 (L2.upd H p (.lst [])))
    (hw : ∀ x, wipe ((wipe σ vs).set j (some x)) vs = wipe σ vs)
    (hs : ∀ p (i : Nat) H', H p = none → (i : Int) < n → P p i H' → tt ((wipe σ vs).set j (some (.int (i : Int)))) H' fun b H3 => if b = true then te ((wipe σ vs).set j (some (.int (i : Int)))) H3 fun y H4 => ∃ acc, H4 p = some (.lst acc) ∧ acc.length < sizeLine ∧ P p (i + 1) (L2.upd H4 p (.lst (acc ++ [y]))) else P p (i + 1) H3)
    (hd : ∀ p H', H p = none → P p n.toNat H' → Q (.ref p) H') : tLc (iRng1 (tCons ta tNil)) (gName j) tt te vs σ H Q := by
  refine hn _ ⟨n, rfl, h1, h2, fun p hp => ?_⟩
  refine lc_range (lo := 0) (Qd := fun H' => Q (.ref p) H') (P p) (h0 p hp) (fun i H' hi q => ?_) fun H' q => hd p H' hp q
  have e : (0 : Int) + (i : Int) = (i : Int) := Int.zero_add _
  rw [e]
  exact ⟨hw _, hs p i H' hp (by omega) q⟩
theorem up_snoc {cs : List Nat} {i : Nat} (h : cs.Pairwise (· < ·)) (hc : ∀ c, c ∈ cs → c < i) : (cs ++ [i]).Pairwise (· < ·) := by
  rw [List.pairwise_append]
  exact ⟨h, List.pairwise_singleton _ _, fun a ha b hb => by rw [List.mem_singleton.mp hb]; exact hc a ha⟩
theorem cInts_snoc {cs : List Nat} {i : Nat} : cInts cs ++ [.int (i : Int)] = cInts (cs ++ [i]) := by unfold cInts; rw [List.map_append]; rfl
theorem cInts_len {cs : List Nat} : (cInts cs).length = cs.length := by unfold cInts; rw [List.length_map]
theorem bls_snoc {bs : List Bool} {b : Bool} : bls bs ++ [.bl b] = bls (bs ++ [b]) := by unfold bls; rw [List.map_append]; rfl
/-- a comprehension of values, item by item -/
theorem x_lcV {wi : TI} {te : TE} {vs : List Nat} {j : Nat} {Q : VK} {σ : L2.St} {H : Hp} {J : It} {G : Hp → Prop} {xs : List V} (f : Nat → V) (hw : ∀ R : It → Hp → Prop, R J H → wi σ H R) (w : Walk J xs.length G (YAt xs)) (hn : xs.length ≤ 100000)
    (hG : ∀ H', Same H H' → G H') (hv : ∀ x, wipe ((wipe σ vs).set j (some x)) vs = wipe σ vs)
    (he : ∀ (i : Nat) x H', Same H H' → xs[i]? = some x → ∀ R : VK, (∀ H2, Same H' H2 → R (f i) H2) → te ((wipe σ vs).set j (some x)) H' R)
    (hd : ∀ p H', H p = none → Same H H' → H' p = some (.lst ((List.range xs.length).map f)) → Q (.ref p) H') : tLc wi (gName j) tYes te vs σ H Q := by
  refine x_lcI hw w (fun p i H' => Same H H' ∧ H' p = some (.lst ((List.range i).map f))) (fun p hp => ⟨same_upd hp, upd_same⟩) (fun p i H' _ _ z => hG H' z.1) ?_ (fun x σ' H' R R' hr h => hr _ _ h) fun p H' hp z => hd p H' hp z.1 z.2
  rintro p i x H' H2 hi hp ⟨hs, hl⟩ ⟨rfl, hx⟩
  refine x_gName ⟨hv x, he i x _ hs hx _ fun H3 hs3 => ?_⟩
  refine ⟨_, hs3 _ _ hl, lt_line (by simp; omega), sput (hs.trans hs3) hp, ?_⟩
  rw [upd_same, List.range_succ, List.map_append]
  rfl
theorem range_map {α β : Type} {ds : List α} {f : α → β} {d : α} : ((List.range ds.length).map fun i => f (ds.getD i d)) = ds.map f := by
  apply List.ext_getElem?
  intro i
  rw [List.getElem?_map, List.getElem?_map]
  by_cases h : i < ds.length
  · rw [List.getElem?_range h, List.getElem?_eq_getElem h]
    show some (f (ds.getD i d)) = some (f ds[i])
    rw [List.getD_eq_getElem?_getD, List.getElem?_eq_getElem h]; rfl
  · rw [List.getElem?_eq_none (by simpa using h), List.getElem?_eq_none (by simpa using h)]
    rfl
theorem getDT {α : Type} {ds : List α} {i : Nat} {e d : α} (h : ds[i]? = some e) : ds.getD i d = e := by rw [List.getD_eq_getElem?_getD, h]; rfl
theorem GtsAt.snoc {H : Hp} {as : List Addr} {gs : List Gt} {b : Addr} {x : Gt} (h : GtsAt H as gs) (hx : GtAt H b x) : GtsAt H (as ++ [b]) (gs ++ [x]) := by
  refine ⟨by rw [List.length_append, List.length_append, h.1]; rfl, fun i y c e1 e2 => ?_⟩
  rcases snoc_at rfl e1 with ⟨h1, e1⟩ | ⟨h1, rfl⟩
  · rcases snoc_at rfl e2 with ⟨h2, e2⟩ | ⟨h2, rfl⟩
    · exact h.2 i y c e1 e2
    · have := h.1; omega
  · rcases snoc_at rfl e2 with ⟨h2, e2⟩ | ⟨h2, rfl⟩
    · have := h.1; omega
    · exact hx
theorem x_lcPreLT {K : PySem.W.Frag} {σ : L2.St} {H : Hp} {Q : VK} {te : TE} {ta : TE} {tt : TT} {j : Nat} {vs : List Nat} (h : ta σ H fun v H1 => tLc (iList K (tC v)) (gName j) tt te vs σ H1 Q) : tLc (iList K ta) (gName j) tt te vs σ H Q := h
/-- a comprehension over a list, with a test -/
theorem x_lcLT {K : PySem.W.Frag} {σ : L2.St} {H : Hp} {Q : VK} {ta : TE} {tt : TT} {te : TE} {j : Nat} {vs : List Nat} {a : Addr} (xs : List V) (P : Addr → Nat → Hp → Prop) (hn : ∀ R : V → Hp → Prop, R (.ref a) H → ta σ H R) (ha : SqL K H a xs) (h0 : ∀ p, H p = none → P p 0 (L2.upd H p (.lst [])))
    (hl : ∀ p i H', H p = none → i ≤ xs.length → P p i H' → SqL K H' a xs) (hw : ∀ x, wipe ((wipe σ vs).set j (some x)) vs = wipe σ vs)
    (hs : ∀ p (i : Nat) x H', H p = none → xs[i]? = some x → P p i H' → tt ((wipe σ vs).set j (some x)) H' fun b H3 => if b = true then te ((wipe σ vs).set j (some x)) H3 fun y H4 => ∃ acc, H4 p = some (.lst acc) ∧ acc.length < sizeLine ∧ P p (i + 1) (L2.upd H4 p (.lst (acc ++ [y]))) else P p (i + 1) H3)
    (hd : ∀ p H', H p = none → P p xs.length H' → Q (.ref p) H') : tLc (iList K ta) (gName j) tt te vs σ H Q := by
  refine hn _ ⟨a, rfl, ⟨xs, ha⟩, fun p hp => ?_⟩
  refine lc_list (xs := xs) (Qd := fun H' => Q (.ref p) H') (P p) (h0 p hp) (fun i H' hi q => hl p i H' hp hi q) (fun i x H' hi q => ?_) fun H' q => hd p H' hp q
  exact ⟨hw _, hs p i x H' hp hi q⟩
def bitsD (n : Int) : PyData → Bool
  | .list es => decide (n ≤ (es.length : Int)) && es.all isBlD
  | _ => false
def blsD (bs : List Bool) : PyData := .list (bs.map PyData.bool)
theorem bitsD_iff {n : Int} {e : PyData} : bitsD n e = true ↔ ∃ bs : List Bool, e = blsD bs ∧ n ≤ (bs.length : Int) := by
  constructor
  · intro h
    cases e with
    | list es =>
      have h : (decide (n ≤ (es.length : Int)) && es.all isBlD) = true := h
      rw [Bool.and_eq_true, decide_eq_true_iff] at h
      have : ∀ es : List PyData, es.all isBlD = true → ∃ bs : List Bool, es = bs.map PyData.bool := by
        intro es
        induction es with
        | nil => intro _; exact ⟨[], rfl⟩
        | cons e es ih =>
          intro h
          rw [List.all_cons, Bool.and_eq_true] at h
          obtain ⟨bs, rfl⟩ := ih h.2
          cases e with
          | bool b => exact ⟨b :: bs, rfl⟩
          | _ => cases h.1
      obtain ⟨bs, rfl⟩ := this es h.2
      exact ⟨bs, rfl, by have := h.1; rw [List.length_map] at this; exact this⟩
    | _ => cases h
  · rintro ⟨bs, rfl, h⟩
    show (decide (n ≤ ((bs.map PyData.bool).length : Int)) && (bs.map PyData.bool).all isBlD) = true
    rw [List.length_map, decide_eq_true h, Bool.true_and, List.all_eq_true]
    intro e he
    obtain ⟨b, _, rfl⟩ := List.mem_map.mp he
    rfl
theorem blsD_at {d : Addr} {H : Hp} {v : V} {bs : List Bool} (h : DAt d H v (blsD bs)) : ∃ a, v = .ref a ∧ H a = some (.lst (bls bs)) := by
  unfold blsD at h
  cases h with
  | lst hd h hs =>
    rename_i a xs
    refine ⟨a, rfl, ?_⟩
    have : ∀ {bs : List Bool} {xs : List V}, DAts d H xs (bs.map PyData.bool) → xs = bls bs := by
      intro bs
      induction bs with
      | nil => intro xs h; cases h; rfl
      | cons b bs ih =>
        intro xs h
        cases h with
        | cons h hs =>
          cases h
          rw [ih hs]
          rfl
    rw [h, this hs]
end Br

/-! ### words as data, and what they do -/
namespace Br
open PySem PySem.Spec PyProof.Rows L2
theorem cutV_to {xs : List V} {k : Nat} (h : k ≤ xs.length) : cutV xs none (some (k : Int)) = xs.take k := by
  unfold cutV
  rw [HT.sIx_none, HT.sIx_nat, Nat.min_eq_left h, List.drop_zero, Nat.sub_zero]
theorem cutV_from {xs : List V} {k : Nat} (h : k ≤ xs.length) : cutV xs (some (k : Int)) none = xs.drop k := by
  unfold cutV
  rw [HT.sIx_none, HT.sIx_nat, Nat.min_eq_left h]
  exact List.take_of_length_le (by rw [List.length_drop]; exact Nat.le_refl _)
/-! slices -/
section
variable {σ : L2.St} {H : Hp} {Q : VK} {R : Option Int → Hp → Prop}
theorem x_gTup3 {K : PySem.W.Frag} {σ : L2.St} {H : Hp} {p : Addr} {x y z : V} {i j k : Nat} {R : L2.St → Hp → Prop} (hp : SqT K H p [x, y, z]) (h : R (((σ.set i (some x)).set j (some y)).set k (some z)) H) : gTup K 3 (gCons (gName i) (gCons (gName j) (gCons (gName k) gNil))) (.ref p) σ H R :=
  ⟨p, [x, y, z], rfl, hp, rfl, x, [y, z], rfl, y, [z], rfl, z, [], rfl, rfl, h⟩
end
structure PmOk (p : List Nat) : Prop where
  len : p.length = 5
  lt : ∀ x, x ∈ p → x < 5
  nd : p.Nodup
abbrev Tr := Nat × List Nat × List Nat
def TrOk (t : Tr) : Prop := t.1 < 60 ∧ PmOk t.2.1 ∧ PmOk t.2.2
def pmD (p : List Nat) : PyData := .tuple (p.map fun (c : Nat) => PyData.int (c : Int))
def trD (t : Tr) : PyData := .tuple [.int (t.1 : Int), pmD t.2.1, pmD t.2.2]
def TrAt (H : Hp) (a : Addr) (t : Tr) : Prop := ∃ z o : Addr, H a = some (.tup [.int (t.1 : Int), .ref z, .ref o]) ∧ H z = some (.tup (cInts t.2.1)) ∧ H o = some (.tup (cInts t.2.2))
theorem TrAt.tups {H H' : Hp} {a : Addr} {t : Tr} (h : TrAt H a t) (k : ∀ b xs, H b = some (.tup xs) → H' b = some (.tup xs)) : TrAt H' a t := by
  obtain ⟨z, o, h1, h2, h3⟩ := h
  exact ⟨z, o, k _ _ h1, k _ _ h2, k _ _ h3⟩
theorem TrAt.dat {d a : Addr} {H : Hp} {t : Tr} (h : TrAt H a t) : DAt d H (.ref a) (trD t) := by
  obtain ⟨z, o, h1, h2, h3⟩ := h
  exact .tup h1 (.cons (.int _) (.cons (.tup h2 cInts_at) (.cons (.tup h3 cInts_at) .nil)))
/-- back from data -/
theorem cInts_of {d : Addr} {H : Hp} : ∀ {xs : List V} {cs : List Nat}, DAts d H xs (cs.map fun (c : Nat) => PyData.int (c : Int)) → xs = cInts cs
  | [], [], _ => rfl
  | v :: xs, c :: cs, h => by
    cases h with
    | cons h hs =>
      cases h
      rw [cInts_of hs]
      rfl
  | [], _ :: _, h => by cases h
  | _ :: _, [], h => by cases h
theorem pmD_at {d : Addr} {H : Hp} {v : V} {p : List Nat} (h : DAt d H v (pmD p)) : ∃ z, v = .ref z ∧ H z = some (.tup (cInts p)) := by
  unfold pmD at h
  cases h with
  | tup h hs =>
    rename_i a xs
    refine ⟨a, rfl, ?_⟩
    rw [h, cInts_of hs]
theorem trD_at {d : Addr} {H : Hp} {v : V} {t : Tr} (h : DAt d H v (trD t)) : ∃ a, v = .ref a ∧ TrAt H a t := by
  unfold trD at h
  cases h with
  | tup h hs =>
    rename_i a xs
    cases hs with
    | cons h1 hs =>
      cases h1
      cases hs with
      | cons h2 hs =>
        cases hs with
        | cons h3 hs =>
          cases hs
          obtain ⟨z, rfl, e2⟩ := pmD_at h2
          obtain ⟨o, rfl, e3⟩ := pmD_at h3
          exact ⟨a, rfl, z, o, h, e2, e3⟩
/-- the checks -/
def intD : PyData → Int
  | .int i => i
  | _ => 0
def permD : PyData → Bool
  | .tuple es => decide (es.length = 5) && (es.all (isBD 5) && decide (es.map intD).Nodup)
  | _ => false
def tripD : PyData → Bool
  | .tuple [k, z, o] => isBD 60 k && (permD z && permD o)
  | _ => false
def wordD : PyData → Bool
  | .list es => decide (es.length ≤ 20000) && es.all tripD
  | _ => false
theorem ints_nat : ∀ {es : List PyData} {b : Nat}, es.all (isBD (b : Int)) = true → ∃ cs : List Nat, es = cs.map (fun (c : Nat) => PyData.int (c : Int)) ∧ ∀ c, c ∈ cs → c < b
  | [], _, _ => ⟨[], rfl, fun c h => by simp at h⟩
  | e :: es, b, h => by
    rw [List.all_cons, Bool.and_eq_true] at h
    obtain ⟨i, rfl, i0, i1⟩ := isBD_iff.mp h.1
    obtain ⟨cs, rfl, hc⟩ := ints_nat h.2
    refine ⟨i.toNat :: cs, ?_, fun c hc' => ?_⟩
    · rw [List.map_cons]
      congr 2
      omega
    · rcases List.mem_cons.mp hc' with rfl | hc'
      · omega
      · exact hc c hc'
theorem map_intD {cs : List Nat} : (cs.map fun (c : Nat) => PyData.int (c : Int)).map intD = cs.map fun (c : Nat) => (c : Int) := by rw [List.map_map]; rfl
theorem nodup_cast {cs : List Nat} : (cs.map fun (c : Nat) => (c : Int)).Nodup ↔ cs.Nodup := by
  unfold List.Nodup
  rw [List.pairwise_map]
  exact ⟨fun h => h.imp fun hh e => hh (by rw [e]), fun h => h.imp fun hh e => hh (Int.ofNat.inj e)⟩
theorem permD_iff {e : PyData} : permD e = true ↔ ∃ p, e = pmD p ∧ PmOk p := by
  constructor
  · intro h
    cases e with
    | tuple es =>
      have h : (decide (es.length = 5) && (es.all (isBD 5) && decide (es.map intD).Nodup)) = true := h
      rw [Bool.and_eq_true, Bool.and_eq_true (es.all _), decide_eq_true_iff, decide_eq_true_iff] at h
      obtain ⟨h1, h2, h3⟩ := h
      obtain ⟨cs, rfl, hc⟩ := ints_nat (b := 5) h2
      rw [map_intD, nodup_cast] at h3
      exact ⟨cs, rfl, by rw [List.length_map] at h1; exact h1, hc, h3⟩
    | _ => cases h
  · rintro ⟨p, rfl, h⟩
    show (decide ((p.map _).length = 5) && ((p.map _).all (isBD 5) && decide ((p.map _).map intD).Nodup)) = true
    rw [map_intD, List.length_map, decide_eq_true h.len, decide_eq_true (nodup_cast.mpr h.nd), Bool.and_true, Bool.true_and, List.all_eq_true]
    intro x hx
    obtain ⟨c, hc, rfl⟩ := List.mem_map.mp hx
    exact isBD_iff.mpr ⟨_, rfl, by omega, by have := h.lt c hc; omega⟩
theorem tripD_iff {e : PyData} : tripD e = true ↔ ∃ t, e = trD t ∧ TrOk t := by
  constructor
  · intro h
    match e, h with
    | .tuple [k, z, o], h =>
      have h : (isBD 60 k && (permD z && permD o)) = true := h
      rw [Bool.and_eq_true, Bool.and_eq_true (permD z)] at h
      obtain ⟨i, rfl, i0, i1⟩ := isBD_iff.mp h.1
      obtain ⟨p, rfl, hp⟩ := permD_iff.mp h.2.1
      obtain ⟨p2, rfl, hp2⟩ := permD_iff.mp h.2.2
      refine ⟨(i.toNat, p, p2), ?_, by show i.toNat < 60; omega, hp, hp2⟩
      show PyData.tuple _ = .tuple [.int ((i.toNat : Nat) : Int), _, _]
      rw [show ((i.toNat : Nat) : Int) = i by omega]
  · rintro ⟨t, rfl, h1, h2, h3⟩
    show (isBD 60 (.int (t.1 : Int)) && (permD (pmD t.2.1) && permD (pmD t.2.2))) = true
    rw [isBD_iff.mpr ⟨_, rfl, by omega, by omega⟩, permD_iff.mpr ⟨_, rfl, h2⟩, permD_iff.mpr ⟨_, rfl, h3⟩]
    rfl
theorem trips_of : ∀ {es : List PyData}, es.all tripD = true → ∃ ws : List Tr, es = ws.map trD ∧ ∀ t, t ∈ ws → TrOk t
  | [], _ => ⟨[], rfl, fun t h => by simp at h⟩
  | e :: es, h => by
    rw [List.all_cons, Bool.and_eq_true] at h
    obtain ⟨t, rfl, ht⟩ := tripD_iff.mp h.1
    obtain ⟨ws, rfl, hw⟩ := trips_of h.2
    refine ⟨t :: ws, rfl, fun x hx => ?_⟩
    rcases List.mem_cons.mp hx with rfl | hx
    · exact ht
    · exact hw x hx
theorem wordD_iff {e : PyData} : wordD e = true ↔ ∃ ws : List Tr, e = .list (ws.map trD) ∧ ws.length ≤ 20000 ∧ ∀ t, t ∈ ws → TrOk t := by
  constructor
  · intro h
    cases e with
    | list es =>
      have h : (decide (es.length ≤ 20000) && es.all tripD) = true := h
      rw [Bool.and_eq_true, decide_eq_true_iff] at h
      obtain ⟨ws, rfl, hw⟩ := trips_of h.2
      exact ⟨ws, rfl, by have := h.1; rw [List.length_map] at this; exact this, hw⟩
    | _ => cases h
  · rintro ⟨ws, rfl, hl, hw⟩
    show (decide ((ws.map trD).length ≤ 20000) && (ws.map trD).all tripD) = true
    rw [List.length_map, decide_eq_true hl, Bool.true_and, List.all_eq_true]
    intro x hx
    obtain ⟨t, ht, rfl⟩ := List.mem_map.mp hx
    exact tripD_iff.mpr ⟨t, rfl, hw t ht⟩
/-- what a word does -/
def stepW (bs : List Bool) (p : Nat) (t : Tr) : Nat := (if bs.getD t.1 false then t.2.2 else t.2.1).getD p 0
def effF (ws : List Tr) (bs : List Bool) (p : Nat) : Nat := ws.foldl (stepW bs) p
theorem effF_snoc {ws : List Tr} {t : Tr} {bs : List Bool} {p : Nat} : effF (ws ++ [t]) bs p = stepW bs (effF ws bs p) t := by
  unfold effF
  rw [List.foldl_append]
  rfl
theorem pm_get {p : List Nat} (h : PmOk p) {i : Nat} (hi : i < 5) : p[i]? = some (p.getD i 0) ∧ p.getD i 0 < 5 := by
  have hl : i < p.length := by rw [h.len]; exact hi
  have e : p.getD i 0 = p[i] := by rw [List.getD_eq_getElem?_getD, List.getElem?_eq_getElem hl]; rfl
  rw [e]
  exact ⟨List.getElem?_eq_getElem hl, h.lt _ (List.getElem_mem hl)⟩
theorem effF_lt {bs : List Bool} : ∀ {ws : List Tr} {p : Nat}, (∀ t, t ∈ ws → TrOk t) → p < 5 → effF ws bs p < 5
  | [], _, _, hp => hp
  | t :: ws, p, h, hp => by
    have ht := h t List.mem_cons_self
    refine effF_lt (p := stepW bs p t) (fun x hx => h x (List.mem_cons_of_mem _ hx)) ?_
    unfold stepW
    split
    · exact (pm_get ht.2.2 hp).2
    · exact (pm_get ht.2.1 hp).2
/-- the bits that a word needs -/
def needW (ws : List Tr) : Nat := (ws.map fun t => t.1 + 1).foldr max 0
theorem needW_le {ws : List Tr} {t : Tr} (h : t ∈ ws) : t.1 + 1 ≤ needW ws := (foldr_max (cs := ws.map fun t => t.1 + 1) (t := 0)).2.1 _ (List.mem_map.mpr ⟨t, h, rfl⟩)
theorem needW_max {ws : List Tr} {m : Int} (h : (ws = [] ∧ m = 0) ∨ (m ∈ ws.map (fun t => ((t.1 : Int) + 1)) ∧ ∀ y, y ∈ ws.map (fun t => ((t.1 : Int) + 1)) → y ≤ m)) : m = (needW ws : Nat) := by
  rcases h with ⟨rfl, rfl⟩ | ⟨h1, h2⟩
  · rfl
  · obtain ⟨t, ht, rfl⟩ := List.mem_map.mp h1
    have k1 := needW_le ht
    have k2 : (needW ws : Int) ≤ (t.1 : Int) + 1 := by
      rcases (foldr_max (cs := ws.map fun t => t.1 + 1) (t := 0)).2.2 with e | e
      · have : needW ws = 0 := e
        omega
      · obtain ⟨u, hu, e⟩ := List.mem_map.mp e
        have := h2 _ (List.mem_map.mpr ⟨u, hu, rfl⟩)
        have e : u.1 + 1 = needW ws := e
        omega
    omega
theorem needW_60 {ws : List Tr} (h : ∀ t, t ∈ ws → TrOk t) : needW ws ≤ 60 := by
  rcases (foldr_max (cs := ws.map fun t => t.1 + 1) (t := 0)).2.2 with e | e
  · have : needW ws = 0 := e
    omega
  · obtain ⟨u, hu, e⟩ := List.mem_map.mp e
    have := (h u hu).1
    have e : u.1 + 1 = needW ws := e
    omega
end Br

/-! ### exceptions of the program: what a suite asks of the one it holds -/
namespace Br
open PySem PySem.Spec PyProof.Rows L2
theorem kit_ref {K : PySem.W.Frag} {D Y : Addr} {b : Bool} (hd : PySem.W.hasDictIn K Y = true) (ht : PySem.W.typeIn K (.ref Y) = some (.type "type")) (h : PySem.W.subIn K (.ref D) (.ref Y) = some b) (hs : PySem.W.subIn K (.ref Y) (.ref Y) = some true) : PySem.W.kitOne K (.ref D) (.ref Y) = some b := by
  unfold PySem.W.kitOne
  by_cases e : D = Y
  · subst e
    rw [h] at hs
    cases hs
    rw [if_pos (by simp)]
  · have hne : ((Value.ref D : Value) == Value.ref Y) = false := by
      rw [beq_eq_false_iff_ne]
      intro z
      cases z
      exact e rfl
    rw [hne, if_neg Bool.false_ne_true]
    obtain ⟨cd, hc, _⟩ := PySem.W.any_some hd
    have e2 : ((PySem.W.clsIn K Y).isSome && PySem.W.typeIn K (.ref Y) == some (.type "type")) = true := by rw [hc, ht]; rfl
    show (if ((PySem.W.clsIn K Y).isSome && PySem.W.typeIn K (.ref Y) == some (.type "type")) = true then PySem.W.subIn K (.ref D) (.ref Y) else none) = some b
    rw [if_pos e2]
    exact h
/-- isinstance(e, c), e what the suite holds, of whatever class -/
def rIsEQ (K : PySem.W.Frag) (a : Addr) (cls : Value) (d : Option Addr) : List V → Hp → VK → Prop := fun xs H Q => ∃ (D : Addr) (C : Addr) (b : Bool), cls = .ref D ∧ d = none ∧ ExcC K D ∧ xs = [.ref a, .ref C] ∧ PySem.W.kitOne K (.ref D) (.ref C) = some b ∧ Q (.bl b) H
theorem call_isEQ {X : Cx} {a : Addr} {oe : Obj} {cls : Value} {d : Option Addr} {pn : List (Addr × Obj)} {K : PySem.W.Frag} (hK : X.K = K) (hz : Zc cls d oe) (hf : ∃ vs, oe.data = .fields vs) : CallR (X.suite a ((a, oe) :: pn)) (.builtin "isinstance") (rIsEQ K a cls d) := by
  subst hK
  intro pins s σ H xs us Q I r h
  obtain ⟨D, C, b, rfl, rfl, hC, rfl, hk, q⟩ := h
  exact call_isE hC hz hf pins s σ H _ us Q I r ⟨.ref C, .ref C, b, rfl, fun u hu => hu, hk, q⟩
section
variable {σ : L2.St} {H : Hp} {D : Ends}
theorem x_callS {sp : Sp} {E : L2.St → XK} {t : TA} {Q : VK} (h : t σ H fun vs H1 => sp vs H1 Q (E σ)) : tCallS sp E t σ H Q := h
end
/-- a method's call within a try: what it raises is wished for at the slots as they stand -/
def tMethX (C : Addr) (m : Str) (sp : Sp) (E : L2.St → XK) (ta : TE) (t : TA) : TE := fun σ H Q => ta σ H fun x H1 => ∃ a dx fs, x = .ref a ∧ H1 a = some (.ins C dx fs) ∧ fs.lookup m = none ∧ t σ H1 fun vs H2 => sp (x :: vs) H2 Q (E σ)
theorem pe_methX {X : Cx} {CX : CXT} {k : Nat} {f C : Addr} {fd : FuncData} {ps : List Str} {sp : Sp} {E : L2.St → XK} {m : Str} {pos apos : Pos} {e o : Expr} {es : List Expr} {ta : TE} {t : TA} {pl : Sem Bool} (he : PE X o ta) (c : Cls X.K C) (hm : Meth X.K C m f)
    (F : FnOk X.prog X.w X.K X.mg X.base CX k f fd ps sp) (hr : Room k X.A) (hb : Binds X.K fd ps []) (hx : ∀ σ, PassesAt CX X σ (E σ)) (ha : PA X (e :: es) t)
    (hst : starEach (e :: es) X.env = (false, eval e X.env) :: starEach es X.env := by rfl) (hpl : (backTo pos (starEach es X.env)).any (·.1) = false := by rfl)
    (ht : eval (.Call (.Attribute o m apos) (e :: es) [] pos) X.env = (do
      let ov ← eval o X.env
      standAt apos.atName
      let (f, first) ← holding [ov] (getMethod ov m pl)
      callWith pos f first (backTo pos (starEach (e :: es) X.env)) (backToKw pos (keywordEach [] X.env))) := by rfl) :
    PE X (.Call (.Attribute o m apos) (e :: es) [] pos) (tMethX C m sp E ta t) := by
  refine ⟨fun pins s σ H Q I h => ?_⟩
  refine PySem.W.methodCall_KW (pl := pl) (thn (he.run pins s σ H _ I h) fun u s1 ⟨x, H1, I1, rx, a, dx, fs, ex, ea, l, q⟩ => ?_) ht
  subst ex
  obtain rfl : u = Value.ref a := rx
  refine getmeth_ok I1 ea c hm l ?_
  refine PySem.W.callWith_K (first := [.ref a]) (h₀ := X.base) I.ok.mod.kin hm.kp (thn (ha.run pos pins s1 σ H1 _ I1 q) fun us s2 ⟨vs, H2, I2, r, q2⟩ => ⟨I2.kIn, ?_⟩) hst hpl
  exact run_fnS (us := .ref a :: us) (vs := .ref a :: vs) F hr hb (hx σ) I2 (.cons rfl r) q2
theorem x_methX {C : Addr} {m : Str} {sp : Sp} {E : L2.St → XK} {ta : TE} {t : TA} {σ : L2.St} {H : Hp} {Q : VK} (h : ta σ H fun x H1 => ∃ a dx fs, x = .ref a ∧ H1 a = some (.ins C dx fs) ∧ fs.lookup m = none ∧ t σ H1 fun vs H2 => sp (x :: vs) H2 Q (E σ)) : tMethX C m sp E ta t σ H Q := h
/-! texts with numbers -/
theorem x_fmt {te : TE} {σ : L2.St} {H : Hp} {Q : VK} (h : te σ H fun x H1 => (∃ y : Str, x = .str y ∧ y.length ≤ sizeLine ∧ Q (.str y) H1) ∨ ∃ i : Int, x = .int i ∧ i.natAbs.log2 < 1920 ∧ Q (.str (toString i)) H1) : tFmt te σ H Q := h
theorem len_nat {n : Nat} (h : n < 10 ^ 10) : (Str.ofString (toString (n : Int))).length ≤ 10 := toString_length_le (Int.natCast_nonneg n) (by decide) (by exact_mod_cast h)
theorem log_nat {n : Nat} (h : n < 2 ^ 64) : ((n : Int)).natAbs.log2 < 1920 := by
  rw [Int.natAbs_natCast]
  by_cases h0 : n = 0
  · subst h0; decide
  · have := (Nat.log2_lt h0).mpr h
    omega
end Br
/-! isinstance(e, (C1, C2, ..)), e what the suite holds -/
namespace Br
open PySem PySem.Spec PyProof.Rows L2
def rIsEQT (K : PySem.W.Frag) (a : Addr) (cls : Value) (d : Option Addr) : List V → Hp → VK → Prop := fun xs H Q => ∃ (D tp : Addr) (cs : List V) (us : List Value) (b : Bool), cls = .ref D ∧ d = none ∧ ExcC K D ∧ xs = [.ref a, .ref tp] ∧ H tp = some (.tup cs) ∧ Paired ClsV cs us ∧ PySem.W.kitAny K (.ref D) us = some b ∧ Q (.bl b) H
theorem call_isEQT {X : Cx} {a : Addr} {oe : Obj} {cls : Value} {d : Option Addr} {pn : List (Addr × Obj)} {K : PySem.W.Frag} (hK : X.K = K) (hz : Zc cls d oe) (hf : ∃ vs, oe.data = .fields vs) : CallR (X.suite a ((a, oe) :: pn)) (.builtin "isinstance") (rIsEQT K a cls d) := by
  subst hK
  intro pins s σ H xs us Q I r h
  obtain ⟨D, tp, cs, ws, b, rfl, rfl, C, rfl, hT, k, e, q⟩ := h
  obtain ⟨u1, u2, rfl, rx, rt⟩ := vals2 r
  cases (show u2 = Value.ref tp from rt)
  cases (show u1 = Value.ref a from rx)
  obtain ⟨hget, _⟩ := I.pin (a, oe) (List.mem_append.mpr (.inl List.mem_cons_self))
  obtain ⟨vs, hv⟩ := hf
  have J : PySem.W.InstAt s.heap a oe D none := by
    obtain ⟨oc, od, oda, osl⟩ := oe
    obtain ⟨h1, h2⟩ := hz
    dsimp only at h1 h2 hv
    subst h1 h2 hv
    exact ⟨hget, rfl, rfl, trivial⟩
  obtain ⟨_, its, rv, o, h1, h2, n, h3⟩ := (show ObjOk _ _ H s.heap tp (.tup cs) from I.hok tp _ hT)
  have e3 := ClsV.all k rv
  subst e3
  obtain ⟨oc, od, dt, sl⟩ := o
  simp only at h2 h3
  subst h2 h3
  exact PySem.W.kia_tup (PySem.W.handS_kitx_exc C.hg C.hk C.hs C.hd C.ha C.hn C.ht C.hm) I.kIn J h1 e (fun z => nomatch z) fun tk => ⟨.bl b, H, I.kept (t' := tk) fun _ _ z => z, rfl, q⟩
end Br
namespace Br
open PySem PySem.Spec PyProof.Rows L2
/-! isinstance(e, ValueError), e what the suite holds -/
def rIsEV (K : PySem.W.Frag) (a : Addr) (cls : Value) (d : Option Addr) : List V → Hp → VK → Prop := fun xs H Q => ∃ (D : Addr) (T : String) (b : Bool), cls = .ref D ∧ d = none ∧ ExcC K D ∧ xs = [.ref a, .ty T] ∧ PySem.W.kitOne K (.ref D) (.type T) = some b ∧ Q (.bl b) H
theorem call_isEV {X : Cx} {a : Addr} {oe : Obj} {cls : Value} {d : Option Addr} {pn : List (Addr × Obj)} {K : PySem.W.Frag} (hK : X.K = K) (hz : Zc cls d oe) (hf : ∃ vs, oe.data = .fields vs) : CallR (X.suite a ((a, oe) :: pn)) (.builtin "isinstance") (rIsEV K a cls d) := by
  subst hK
  intro pins s σ H xs us Q I r h
  obtain ⟨D, T, b, rfl, rfl, hC, rfl, hk, q⟩ := h
  exact call_isE hC hz hf pins s σ H _ us Q I r ⟨.ty T, .type T, b, rfl, fun u hu => hu, hk, q⟩
theorem kit_val {K : PySem.W.Frag} {D : Addr} (h : PySem.W.subIn K (.ref D) (.type "ValueError") = some true) : PySem.W.kitOne K (.ref D) (.type "ValueError") = some true := by
  unfold PySem.W.kitOne
  rw [if_neg (by rw [show ((Value.ref D : Value) == Value.type "ValueError") = false from rfl]; decide)]
  show (if PySem.W.kitMeta "ValueError" = true then PySem.W.subIn K (.ref D) (.type "ValueError") else none) = some true
  rw [if_pos (by decide +kernel)]
  exact h
end Br

/-! ### data: changes elsewhere, changes of an item -/
namespace Br
open PySem PySem.Spec PyProof.Rows L2
section
variable {d c : Addr} {H H' : Hp}
mutual
theorem DAt.keep2 (hc : ∃ ys, H c = some (.lst ys)) (k : Keep c H H') : ∀ (e : PyData) {v : V}, DAt c H v e → DAt d H v e → DAt d H' v e
  | .none, _, _, h => by cases h; exact .non
  | .bool b, _, _, h => by cases h; exact .bl b
  | .int i, _, _, h => by cases h; exact .int i
  | .str x, _, _, h => by cases h; exact .str x
  | .list ds, _, h1, h => by
    cases h1 with
    | lst hn1 h1 hs1 =>
      cases h with
      | lst hn h hs =>
        rw [h] at h1
        cases h1
        exact .lst hn (k _ _ h hn1) (DAts.keep2 hc k ds hs1 hs)
  | .tuple ds, _, h1, h => by
    obtain ⟨ys, hc'⟩ := id hc
    cases h1 with
    | tup h1 hs1 =>
      cases h with
      | tup h hs =>
        rw [h] at h1
        cases h1
        exact .tup (k _ _ h (ne_of h hc' (by intro z; cases z))) (DAts.keep2 hc k ds hs1 hs)
  | .dict _, _, _, h => by cases h
theorem DAts.keep2 (hc : ∃ ys, H c = some (.lst ys)) (k : Keep c H H') : ∀ (es : List PyData) {vs : List V}, DAts c H vs es → DAts d H vs es → DAts d H' vs es
  | [], _, _, h => by cases h; exact .nil
  | e :: es, _, h1, h => by
    cases h1 with
    | cons h1 hs1 =>
      cases h with
      | cons h hs => exact .cons (DAt.keep2 hc k e h1 h) (DAts.keep2 hc k es hs1 hs)
end
theorem DAts.set : ∀ {xs : List V} {es : List PyData} {i : Nat} {v : V} {e : PyData}, DAts d H xs es → DAt d H v e → DAts d H (xs.set i v) (es.set i e)
  | [], _, _, _, _, h, _ => by cases h; exact .nil
  | x :: xs, _, i, v, e, h, h1 => by
    cases h with
    | cons h hs =>
      cases i with
      | zero => exact .cons h1 hs
      | succ i => exact .cons h (hs.set h1)
theorem DAts.take : ∀ {xs : List V} {es : List PyData} {n : Nat}, DAts d H xs es → DAts d H (xs.take n) (es.take n)
  | [], _, n, h => by cases h; cases n <;> exact .nil
  | x :: xs, _, 0, h => by cases h; exact .nil
  | x :: xs, _, n + 1, h => by
    cases h with
    | cons h hs => exact .cons h hs.take
theorem DAts.drop : ∀ {xs : List V} {es : List PyData} {n : Nat}, DAts d H xs es → DAts d H (xs.drop n) (es.drop n)
  | [], _, n, h => by cases h; cases n <;> exact .nil
  | x :: xs, _, 0, h => h
  | x :: xs, _, n + 1, h => by
    cases h with
    | cons h hs => exact hs.drop
/-- a value that needs no object -/
def FlatD (v : V) (e : PyData) : Prop := ∀ d H, DAt d H v e
/-- data apart from every list that stood before -/
def DNew (H0 H : Hp) (v : V) (e : PyData) : Prop := ∀ p, H0 p ≠ none → DAt p H v e
theorem FlatD.new {H0 H : Hp} {v : V} {e : PyData} (h : FlatD v e) : DNew H0 H v e := fun p _ => h p H
end
theorem x_andP {t u : TT} {σ : L2.St} {H : Hp} {QT : Bool → Hp → Prop} (b1 b2 : Bool) (h1 : ∀ R : Bool → Hp → Prop, R b1 H → t σ H R) (h2 : b1 = true → ∀ R : Bool → Hp → Prop, R b2 H → u σ H R) (h : QT (b1 && b2) H) : tAnd t u σ H QT := by
  refine h1 _ ?_
  cases b1 with
  | true => exact iteT (h2 rfl _ h)
  | false => exact iteF h
theorem x_orI {u : TT} {σ : L2.St} {H : Hp} {QT : Bool → Hp → Prop} {b1 : Bool} (b2 : Bool) (h2 : b1 = false → ∀ R : Bool → Hp → Prop, R b2 H → u σ H R) (h : QT (b1 || b2) H) : if b1 = true then QT true H else u σ H QT := by
  cases b1 with
  | true => exact iteT h
  | false => exact iteF (h2 rfl _ h)
theorem x_andI {u : TT} {σ : L2.St} {H : Hp} {QT : Bool → Hp → Prop} {b1 : Bool} (b2 : Bool) (h2 : b1 = true → ∀ R : Bool → Hp → Prop, R b2 H → u σ H R) (h : QT (b1 && b2) H) : if b1 = true then u σ H QT else QT false H := by
  cases b1 with
  | true => exact iteT (h2 rfl _ h)
  | false => exact iteF h
end Br

/-! ### what is a list of gates, read back -/
namespace Br
open PySem PySem.Spec PyProof.Rows L2
theorem risF_nat : ∀ {es : List PyData} {l : Int}, -1 ≤ l → risF l es = true → ∃ cs : List Nat, es = cs.map (fun (c : Nat) => PyData.int (c : Int)) ∧ cs.Pairwise (· < ·) ∧ ∀ c, c ∈ cs → c < 120 ∧ l < (c : Int)
  | [], _, _, _ => ⟨[], rfl, .nil, fun c h => by simp at h⟩
  | .int i :: es, l, hl, hr => by
    have hr : ((decide (0 ≤ i) && decide (i < 120)) && (decide (l < i) && risF i es)) = true := hr
    rw [Bool.and_eq_true, Bool.and_eq_true (decide (l < i)), Bool.and_eq_true, decide_eq_true_iff, decide_eq_true_iff, decide_eq_true_iff] at hr
    obtain ⟨⟨h0, h1⟩, h2, h3⟩ := hr
    obtain ⟨cs, rfl, hp, hc⟩ := risF_nat (by omega) h3
    obtain ⟨c, rfl⟩ : ∃ c : Nat, i = (c : Int) := ⟨i.toNat, by omega⟩
    refine ⟨c :: cs, rfl, List.pairwise_cons.mpr ⟨fun x hx => by have := (hc x hx).2; omega, hp⟩, fun x hx => ?_⟩
    rcases List.mem_cons.mp hx with rfl | hx
    · omega
    · have := hc x hx
      omega
  | .none :: _, _, _, hr => by cases hr
  | .bool _ :: _, _, _, hr => by cases hr
  | .str _ :: _, _, _, hr => by cases hr
  | .list _ :: _, _, _, hr => by cases hr
  | .tuple _ :: _, _, _, hr => by cases hr
  | .dict _ :: _, _, _, hr => by cases hr
theorem gateD_iff {e : PyData} : gateD e = true ↔ ∃ g, e = gtD g ∧ GtOk 120 g := by
  constructor
  · intro h
    match e, h with
    | .tuple [t, .tuple es], h =>
      have h : (isBD 120 t && (risF (-1) es && !hasD t es)) = true := h
      rw [Bool.and_eq_true, Bool.and_eq_true] at h
      obtain ⟨h1, h2, h3⟩ := h
      obtain ⟨i, rfl, i0, i1⟩ := isBD_iff.mp h1
      obtain ⟨cs, rfl, hp, hc⟩ := risF_nat (by decide) h2
      obtain ⟨t, rfl⟩ : ∃ c : Nat, i = (c : Int) := ⟨i.toNat, by omega⟩
      refine ⟨(t, cs), rfl, ⟨by show t < 120; omega, fun c hc2 => (hc c hc2).1, fun hm => ?_, hp⟩⟩
      have hf : hasD (.int (t : Int)) (cs.map fun (c : Nat) => PyData.int (c : Int)) = false := by simpa using h3
      unfold hasD at hf
      rw [List.any_eq_false] at hf
      exact hf (.int (t : Int)) (List.mem_map.mpr ⟨t, hm, rfl⟩) (by show decide ((t : Int) = (t : Int)) = true; exact decide_eq_true rfl)
  · rintro ⟨g, rfl, ok⟩
    exact gateD_ok ok
theorem gatesD_iff {e : PyData} : gatesD e = true ↔ ∃ gs : List Gt, e = .list (gs.map gtD) ∧ gs.length ≤ 60000 ∧ ∀ g, g ∈ gs → GtOk 120 g := by
  constructor
  · intro h
    cases e with
    | list es =>
      have h : (decide (es.length ≤ 60000) && es.all gateD) = true := h
      rw [Bool.and_eq_true, decide_eq_true_iff] at h
      have : ∀ es : List PyData, es.all gateD = true → ∃ gs : List Gt, es = gs.map gtD ∧ ∀ g, g ∈ gs → GtOk 120 g := by
        intro es
        induction es with
        | nil => intro _; exact ⟨[], rfl, fun g h => by simp at h⟩
        | cons e es ih =>
          intro h
          rw [List.all_cons, Bool.and_eq_true] at h
          obtain ⟨gs, rfl, hg⟩ := ih h.2
          obtain ⟨g, rfl, ok⟩ := gateD_iff.mp h.1
          refine ⟨g :: gs, rfl, fun x hx => ?_⟩
          rcases List.mem_cons.mp hx with rfl | hx
          · exact ok
          · exact hg x hx
      obtain ⟨gs, rfl, hg⟩ := this es h.2
      exact ⟨gs, rfl, by have := h.1; rw [List.length_map] at this; exact this, hg⟩
    | _ => cases h
  · rintro ⟨gs, rfl, hl, ok⟩
    show (decide ((gs.map gtD).length ≤ 60000) && (gs.map gtD).all gateD) = true
    rw [List.length_map, decide_eq_true hl, Bool.true_and, List.all_eq_true]
    intro e he
    obtain ⟨g, hg, rfl⟩ := List.mem_map.mp he
    exact gateD_ok (ok g hg)
/-- the bits that gates need -/
def needG (gs : List Gt) : Nat := (gs.map topG).foldr max 0
theorem needG_max {gs : List Gt} {m : Int} (h : (gs.map fun g => ((topG g : Nat) : Int)) = [] ∧ m = 0 ∨ m ∈ (gs.map fun g => ((topG g : Nat) : Int)) ∧ ∀ y, y ∈ (gs.map fun g => ((topG g : Nat) : Int)) → y ≤ m) : m = ((needG gs : Nat) : Int) := by
  obtain ⟨f1, f2, f3⟩ := foldr_max (cs := gs.map topG) (t := 0)
  rcases h with ⟨h, rfl⟩ | ⟨h, hle⟩
  · rw [List.map_eq_nil_iff.mp h]; rfl
  · obtain ⟨g, hg, rfl⟩ := List.mem_map.mp h
    have k1 := f2 _ (List.mem_map.mpr ⟨g, hg, rfl⟩)
    have k2 : ((needG gs : Nat) : Int) ≤ ((topG g : Nat) : Int) := by
      rcases f3 with f3 | f3
      · unfold needG; rw [f3]; omega
      · obtain ⟨g2, hg2, e2⟩ := List.mem_map.mp f3
        have := hle _ (List.mem_map.mpr ⟨g2, hg2, rfl⟩)
        unfold needG
        rw [← e2]
        exact this
    have k3 : topG g ≤ needG gs := k1
    omega
theorem needG_le {gs : List Gt} {n : Nat} (h : ∀ g, g ∈ gs → GtOk n g) : needG gs ≤ n := by
  rcases (foldr_max (cs := gs.map topG) (t := 0)).2.2 with e | e
  · unfold needG; rw [e]; exact Nat.zero_le _
  · obtain ⟨g, hg, e2⟩ := List.mem_map.mp e
    unfold needG
    rw [← e2]
    exact topG_le (h g hg)
theorem needG_ge {gs : List Gt} {g : Gt} (h : g ∈ gs) : topG g ≤ needG gs := (foldr_max (cs := gs.map topG) (t := 0)).2.1 _ (List.mem_map.mpr ⟨g, h, rfl⟩)
theorem GtOk.top {n m : Nat} {g : Gt} (ok : GtOk n g) (h : topG g ≤ m) : GtOk m g := by
  obtain ⟨f1, f2, _⟩ := foldr_max (cs := g.2) (t := g.1)
  have h : g.2.foldr max g.1 + 1 ≤ m := h
  exact ⟨by omega, fun c hc => by have := f2 c hc; omega, ok.ne, ok.up⟩
theorem gtD_inj : Function.Injective gtD := fun a b hab => by
  obtain ⟨t, cs⟩ := a
  obtain ⟨u, ds⟩ := b
  have h := PyData.tuple.inj hab
  obtain ⟨h1, h2⟩ := List.cons.inj h
  have h2 := PyData.tuple.inj (List.cons.inj h2).1
  have h1 : (t : Int) = (u : Int) := PyData.int.inj h1
  have h2 : cs = ds := (List.map_inj_right (fun _ _ z => Int.ofNat.inj (PyData.int.inj z))).mp h2
  rw [h2, Int.ofNat.inj h1]
theorem gts_inj {a b : List Gt} (h : a.map gtD = b.map gtD) : a = b := (List.map_inj_right gtD_inj).mp h
theorem gtD_at {d : Addr} {H : Hp} {v : V} {g : Gt} (h : DAt d H v (gtD g)) : ∃ a, v = .ref a ∧ GtAt H a g := by
  unfold gtD at h
  cases h with
  | tup h hs =>
    rename_i a xs
    cases hs with
    | cons h1 hs =>
      cases hs with
      | cons h2 hs =>
        cases hs
        cases h1
        cases h2 with
        | tup h2 hs2 =>
          rename_i c ys
          have : ∀ {cs : List Nat} {ys : List V}, DAts d H ys (cs.map fun (c : Nat) => PyData.int (c : Int)) → ys = cInts cs := by
            intro cs
            induction cs with
            | nil => intro ys h; cases h; rfl
            | cons c cs ih =>
              intro ys h
              cases h with
              | cons h hs => cases h; rw [ih hs]; rfl
          exact ⟨a, rfl, c, h, by rw [h2, this hs2]⟩
theorem DAts.gts {d : Addr} {H : Hp} {xs : List V} {gs : List Gt} (h : DAts d H xs (gs.map gtD)) : ∃ as : List Addr, xs = as.map V.ref ∧ GtsAt H as gs := by
  induction gs generalizing xs with
  | nil => cases h; exact ⟨[], rfl, rfl, fun i x b h _ => by simp at h⟩
  | cons g gs ih =>
    cases h with
    | cons h hs =>
      obtain ⟨a, rfl, ha⟩ := gtD_at h
      obtain ⟨as, rfl, hl, hat⟩ := ih hs
      refine ⟨a :: as, rfl, congrArg (· + 1) hl, fun i x b h1 h2 => ?_⟩
      cases i with
      | zero => cases h1; cases h2; exact ha
      | succ i => exact hat i x b (by simpa using h1) (by simpa using h2)
theorem GtsAt.dats {d : Addr} {H : Hp} {as : List Addr} {gs : List Gt} (h : GtsAt H as gs) : DAts d H (as.map V.ref) (gs.map gtD) := by
  refine DAts.of (by rw [List.length_map, List.length_map, h.1]) fun i x e h1 h2 => ?_
  obtain ⟨b, hb, rfl⟩ := map_getR h1
  obtain ⟨g, hg, hat⟩ := h.get hb
  rw [List.getElem?_map, hg] at h2
  cases h2
  exact hat.dat
/-- what is no list of rising bits -/
theorem risF_bad : ∀ {es : List PyData} {l : Int} {e : PyData}, e ∈ es → isBD 120 e = false → risF l es = false
  | [], _, _, h, _ => by simp at h
  | .int i :: es, l, e, h, hb => by
    show ((decide (0 ≤ i) && decide (i < 120)) && (decide (l < i) && risF i es)) = false
    rcases List.mem_cons.mp h with rfl | h
    · rw [show (decide (0 ≤ i) && decide (i < 120)) = false from hb]; rfl
    · rw [risF_bad h hb, Bool.and_false, Bool.and_false]
  | .none :: _, _, _, _, _ => rfl
  | .bool _ :: _, _, _, _, _ => rfl
  | .str _ :: _, _, _, _, _ => rfl
  | .list _ :: _, _, _, _, _ => rfl
  | .tuple _ :: _, _, _, _, _ => rfl
  | .dict _ :: _, _, _, _, _ => rfl
theorem risF_two : ∀ {xs ys : List PyData} {l a b : Int}, b ≤ a → risF l (xs ++ .int a :: .int b :: ys) = false
  | [], ys, l, a, b, h => by
    show ((decide (0 ≤ a) && decide (a < 120)) && (decide (l < a) && ((decide (0 ≤ b) && decide (b < 120)) && (decide (a < b) && risF b ys)))) = false
    rw [decide_eq_false (show ¬ a < b by omega), Bool.false_and, Bool.and_false, Bool.and_false, Bool.and_false]
  | .int i :: xs, ys, l, a, b, h => by
    show ((decide (0 ≤ i) && decide (i < 120)) && (decide (l < i) && risF i (xs ++ .int a :: .int b :: ys))) = false
    rw [risF_two h, Bool.and_false, Bool.and_false]
  | .none :: _, _, _, _, _, _ => rfl
  | .bool _ :: _, _, _, _, _, _ => rfl
  | .str _ :: _, _, _, _, _, _ => rfl
  | .list _ :: _, _, _, _, _, _ => rfl
  | .tuple _ :: _, _, _, _, _, _ => rfl
  | .dict _ :: _, _, _, _, _, _ => rfl
theorem gateD_ris {t : PyData} {es : List PyData} (h : risF (-1) es = false) : gateD (.tuple [t, .tuple es]) = false := by
  show (isBD 120 t && (risF (-1) es && _)) = false
  rw [h, Bool.false_and, Bool.and_false]
theorem gateD_tgt {t c : PyData} (h : isBD 120 t = false) : gateD (.tuple [t, c]) = false := by
  cases c with
  | tuple es =>
    show (isBD 120 t && _) = false
    rw [h, Bool.false_and]
  | _ => rfl
theorem gateD_has {t : Int} {es : List PyData} (h : PyData.int t ∈ es) : gateD (.tuple [.int t, .tuple es]) = false := by
  show (isBD 120 (.int t) && (risF (-1) es && !hasD (.int t) es)) = false
  have : hasD (.int t) es = true := by
    unfold hasD
    rw [List.any_eq_true]
    exact ⟨_, h, decide_eq_true rfl⟩
  rw [this, Bool.not_true, Bool.and_false, Bool.and_false]
theorem mem_setI {α : Type} {xs : List α} {i : Nat} {e : α} (h : i < xs.length) : e ∈ xs.set i e := List.mem_of_getElem? (List.getElem?_set_self h)
theorem gatesD_set {gs : List Gt} {i : Nat} {e : PyData} (hi : i < gs.length) (h : gateD e = false) : gatesD (.list ((gs.map gtD).set i e)) = false := by
  show (decide _ && ((gs.map gtD).set i e).all gateD) = false
  have : ((gs.map gtD).set i e).all gateD = false := List.all_eq_false.mpr ⟨e, mem_setI (by rw [List.length_map]; exact hi), by rw [h]; decide⟩
  rw [this, Bool.and_false]
theorem bitsD_set {bs : List Bool} {i : Nat} {e : PyData} {n : Int} (hi : i < bs.length) (h : isBlD e = false) : bitsD n (.list ((bs.map PyData.bool).set i e)) = false := by
  show (decide _ && ((bs.map PyData.bool).set i e).all isBlD) = false
  have : ((bs.map PyData.bool).set i e).all isBlD = false := List.all_eq_false.mpr ⟨e, mem_setI (by rw [List.length_map]; exact hi), by rw [h]; decide⟩
  rw [this, Bool.and_false]
theorem bitsD_short {bs : List Bool} {n : Int} (h : (bs.length : Int) < n) : bitsD n (blsD bs) = false := by
  show (decide (n ≤ ((bs.map PyData.bool).length : Int)) && _) = false
  rw [List.length_map, decide_eq_false (by omega), Bool.false_and]
end Br

/-! ### gates that are spread -/
namespace Br
open PySem PySem.Spec PyProof.Rows L2
theorem atI_back {α : Type} {xs : List α} {j : Nat} {v : α} (hj : j < xs.length) (h : xs[xs.length - 1 - j]? = some v) : atI xs (-1 - (j : Int)) = some v := by
  unfold atI ixN
  rw [if_neg (by omega), if_pos (by omega)]
  show xs[(-1 - (j : Int) + (xs.length : Int)).toNat]? = some v
  rw [show (-1 - (j : Int) + (xs.length : Int)).toNat = xs.length - 1 - j by omega]
  exact h
theorem atI_m1 {α : Type} {xs : List α} {v : α} (hj : 0 < xs.length) (h : xs[xs.length - 1]? = some v) : atI xs (-1) = some v := atI_back (j := 0) hj h
def two (t a b : Nat) : Gt := (t, if a < b then [a, b] else [b, a])
/-- what the borrowed bits must be -/
def borD (ns : List Int) (n : Int) : PyData → Bool
  | .list es => decide ((es.length : Int) = n) && (es.all (isBD 120) && decide ((ns ++ es.map intD).Nodup))
  | _ => false
def natsD (cs : List Nat) : List PyData := cs.map fun (c : Nat) => PyData.int (c : Int)
theorem natsD_of : ∀ {es : List PyData}, es.all (isBD 120) = true → ∃ bs : List Nat, es = natsD bs ∧ ∀ b, b ∈ bs → b < 120
  | [], _ => ⟨[], rfl, fun b h => by simp at h⟩
  | e :: es, h => by
    rw [List.all_cons, Bool.and_eq_true] at h
    obtain ⟨i, rfl, i0, i1⟩ := isBD_iff.mp h.1
    obtain ⟨bs, rfl, hb⟩ := natsD_of h.2
    obtain ⟨b, rfl⟩ : ∃ b : Nat, i = (b : Int) := ⟨i.toNat, by omega⟩
    refine ⟨b :: bs, rfl, fun x hx => ?_⟩
    rcases List.mem_cons.mp hx with rfl | hx
    · omega
    · exact hb x hx
theorem natsD_int {bs : List Nat} : (natsD bs).map intD = bs.map fun (c : Nat) => (c : Int) := by unfold natsD; rw [List.map_map]; rfl
theorem natsD_all {bs : List Nat} (h : ∀ b, b ∈ bs → b < 120) : (natsD bs).all (isBD 120) = true := by
  rw [List.all_eq_true]
  intro e he
  obtain ⟨b, hb, rfl⟩ := List.mem_map.mp he
  have := h b hb
  exact isBD_iff.mpr ⟨_, rfl, by omega, by omega⟩
theorem nodup_nat {ns : List Nat} : (ns.map fun (c : Nat) => (c : Int)).Nodup ↔ ns.Nodup := by
  constructor
  · intro h
    exact (List.pairwise_map.mp h).imp fun h e => h (by rw [e])
  · intro h
    exact List.pairwise_map.mpr (h.imp fun h e => h (by omega))
theorem borD_iff {t n : Nat} {cs : List Nat} {e : PyData} : borD ((t : Int) :: cs.map fun (c : Nat) => (c : Int)) (n : Int) e = true ↔ ∃ bs : List Nat, e = .list (natsD bs) ∧ bs.length = n ∧ (∀ b, b ∈ bs → b < 120) ∧ (t :: cs ++ bs).Nodup := by
  constructor
  · intro h
    cases e with
    | list es =>
      have h : (decide ((es.length : Int) = n) && (es.all (isBD 120) && decide ((((t : Int) :: cs.map fun (c : Nat) => (c : Int)) ++ es.map intD).Nodup))) = true := h
      rw [Bool.and_eq_true, Bool.and_eq_true, decide_eq_true_iff, decide_eq_true_iff] at h
      obtain ⟨h1, h2, h3⟩ := h
      obtain ⟨bs, rfl, hb⟩ := natsD_of h2
      rw [natsD_int] at h3
      refine ⟨bs, rfl, by unfold natsD at h1; rw [List.length_map] at h1; omega, hb, nodup_nat.mp ?_⟩
      rw [List.map_append]
      exact h3
    | _ => cases h
  · rintro ⟨bs, rfl, hl, hb, hn⟩
    show (decide (((natsD bs).length : Int) = n) && ((natsD bs).all (isBD 120) && decide ((((t : Int) :: cs.map fun (c : Nat) => (c : Int)) ++ (natsD bs).map intD).Nodup))) = true
    rw [natsD_all hb, natsD_int, Bool.true_and]
    have h1 : (natsD bs).length = n := by unfold natsD; rw [List.length_map]; exact hl
    have h2 := nodup_nat.mpr hn
    rw [List.map_append] at h2
    have h2 : (((t : Int) :: cs.map fun (c : Nat) => (c : Int)) ++ bs.map fun (c : Nat) => (c : Int)).Nodup := h2
    rw [decide_eq_true (by omega), decide_eq_true h2]
    rfl
def turnF (t : Nat) (bs : List Nat) : List Nat := t :: bs.reverse
def downF (t : Nat) (cs bs : List Nat) : List Gt := (List.range bs.length).map fun j => two ((turnF t bs).getD j 0) ((turnF t bs).getD (j + 1) 0) (cs.getD (cs.length - 1 - j) 0)
def lastF (t : Nat) (cs bs : List Nat) : Gt := ((turnF t bs).getD bs.length 0, cs.take 2)
def spreadF (t : Nat) (cs bs : List Nat) : List Gt := if bs = [] then [(t, cs)] else downF t cs bs ++ [lastF t cs bs] ++ (downF t cs bs).reverse ++ (downF t cs bs).drop 1 ++ [lastF t cs bs] ++ ((downF t cs bs).drop 1).reverse
theorem turn_len {t : Nat} {bs : List Nat} : (turnF t bs).length = bs.length + 1 := by unfold turnF; rw [List.length_cons, List.length_reverse]
theorem down_len {t : Nat} {cs bs : List Nat} : (downF t cs bs).length = bs.length := by unfold downF; rw [List.length_map, List.length_range]
theorem down_get {t k : Nat} {cs bs : List Nat} (h : k < bs.length) : (downF t cs bs)[k]? = some (two ((turnF t bs).getD k 0) ((turnF t bs).getD (k + 1) 0) (cs.getD (cs.length - 1 - k) 0)) := by
  unfold downF
  rw [List.getElem?_map, List.getElem?_range h]
  rfl
theorem cInts_at2 {cs : List Nat} {i : Nat} (h : i < cs.length) : (cInts cs)[i]? = some (.int ((cs.getD i 0 : Nat) : Int)) := by
  unfold cInts
  rw [List.getElem?_map, List.getElem?_eq_getElem h, List.getD_eq_getElem?_getD, List.getElem?_eq_getElem h]
  rfl
theorem cInts_rev {cs : List Nat} : (cInts cs).reverse = cInts cs.reverse := by unfold cInts; rw [List.map_reverse]
theorem cInts_app {cs ds : List Nat} : cInts cs ++ cInts ds = cInts (cs ++ ds) := by unfold cInts; rw [List.map_append]
theorem cInts_take {cs : List Nat} {n : Nat} : (cInts cs).take n = cInts (cs.take n) := by unfold cInts; rw [List.map_take]
theorem GtsAt.rev {H : Hp} {as : List Addr} {gs : List Gt} (h : GtsAt H as gs) : GtsAt H as.reverse gs.reverse := by
  refine ⟨by rw [List.length_reverse, List.length_reverse, h.1], fun i x b e1 e2 => ?_⟩
  have h1 := (List.getElem?_eq_some_iff.mp e1).1
  have h2 := (List.getElem?_eq_some_iff.mp e2).1
  rw [List.length_reverse] at h1 h2
  rw [List.getElem?_reverse h1] at e1
  rw [List.getElem?_reverse h2, h.1] at e2
  exact h.2 _ x b e1 e2
theorem GtsAt.app {H : Hp} {as bs : List Addr} {gs hs : List Gt} (h : GtsAt H as gs) (h2 : GtsAt H bs hs) : GtsAt H (as ++ bs) (gs ++ hs) := by
  refine ⟨by rw [List.length_append, List.length_append, h.1, h2.1], fun i x b e1 e2 => ?_⟩
  by_cases hi : i < gs.length
  · rw [List.getElem?_append_left hi] at e1
    rw [List.getElem?_append_left (by rw [h.1]; exact hi)] at e2
    exact h.2 i x b e1 e2
  · rw [List.getElem?_append_right (by omega)] at e1
    rw [List.getElem?_append_right (by rw [h.1]; omega), h.1] at e2
    exact h2.2 _ x b e1 e2
theorem GtsAt.drop {H : Hp} {as : List Addr} {gs : List Gt} (h : GtsAt H as gs) {n : Nat} : GtsAt H (as.drop n) (gs.drop n) :=
  ⟨by rw [List.length_drop, List.length_drop, h.1], fun i x b e1 e2 => h.2 (n + i) x b (by rw [← List.getElem?_drop]; exact e1) (by rw [← List.getElem?_drop]; exact e2)⟩
theorem GtsAt.one {H : Hp} {a : Addr} {g : Gt} (h : GtAt H a g) : GtsAt H [a] [g] := ⟨rfl, fun i x b e1 e2 => by
  cases i with
  | zero => cases e1; cases e2; exact h
  | succ i => simp at e1⟩
end Br

/-! ### len(set(xs)), any ints -/
namespace Br
open PySem PySem.Spec PyProof.Rows L2
theorem nodup_le : ∀ {ks ns : List Int}, ks.Nodup → (∀ k, k ∈ ks → k ∈ ns) → ks.length ≤ ns.length
  | [], _, _, _ => Nat.zero_le _
  | k :: ks, ns, hn, hs => by
    rw [List.nodup_cons] at hn
    have hk := hs k List.mem_cons_self
    have h := nodup_le (ns := ns.erase k) hn.2 fun x hx => by
      have hx2 := hs x (List.mem_cons_of_mem _ hx)
      exact (List.mem_erase_of_ne (fun e => hn.1 (by rw [← e]; exact hx))).mpr hx2
    rw [List.length_erase_of_mem hk] at h
    have := List.length_pos_of_mem hk
    rw [List.length_cons]
    omega
theorem dup_at : ∀ {ns : List Int}, ¬ ns.Nodup → ∃ x, x ∈ ns ∧ x ∈ ns.erase x
  | [], h => absurd List.nodup_nil h
  | x :: r, h => by
    by_cases hx : x ∈ r
    · exact ⟨x, List.mem_cons_self, by rw [List.erase_cons_head]; exact hx⟩
    · have hr : ¬ r.Nodup := fun hr => h (List.nodup_cons.mpr ⟨hx, hr⟩)
      obtain ⟨y, h1, h2⟩ := dup_at hr
      have hne : x ≠ y := fun e => hx (by rw [e]; exact h1)
      refine ⟨y, List.mem_cons_of_mem _ h1, ?_⟩
      rw [List.erase_cons_tail (by simpa using hne)]
      exact List.mem_cons_of_mem _ h2
theorem card_iff {ks ns : List Int} (hn : ks.Nodup) (h : ∀ k, k ∈ ks ↔ k ∈ ns) : (ks.length = ns.length ↔ ns.Nodup) ∧ ks.length ≤ ns.length := by
  have hle := nodup_le hn fun k hk => (h k).mp hk
  refine ⟨⟨fun e => ?_, fun hs => ?_⟩, hle⟩
  · by_cases hd : ns.Nodup
    · exact hd
    · exfalso
      obtain ⟨x, h1, h2⟩ := dup_at hd
      have := nodup_le (ns := ns.erase x) hn fun k hk => by
        by_cases e : k = x
        · rw [e]; exact h2
        · exact (List.mem_erase_of_ne e).mpr ((h k).mp hk)
      rw [List.length_erase_of_mem h1] at this
      have := List.length_pos_of_mem h1
      omega
  · have := nodup_le hs fun k hk => (h k).mpr hk
    omega
theorem step_nodup {ks : List Int} {k : Int} (h : ks.Nodup) : (step_dedup ks k).Nodup ∧ ∀ x, x ∈ step_dedup ks k ↔ x ∈ ks ∨ x = k := by
  unfold step_dedup
  split
  · rename_i hb
    obtain ⟨y, hy, e⟩ := List.any_eq_true.mp hb
    have : y = k := by simpa using e
    subst this
    refine ⟨h, fun x => ⟨.inl, fun z => z.elim id fun e => by rw [e]; exact hy⟩⟩
  · rename_i hb
    have hk : k ∉ ks := fun hk => hb (List.any_eq_true.mpr ⟨k, hk, by simp⟩)
    refine ⟨List.nodup_append.mpr ⟨h, by simp, fun a ha b hb e => hk (by rw [← List.mem_singleton.mp hb, ← e]; exact ha)⟩, fun x => by simp⟩
theorem firstMet_spec {ns : List Int} : ∀ i, i ≤ ns.length → (firstMet (fun i => ns.getD i 0) i).Nodup ∧ ∀ x, x ∈ firstMet (fun i => ns.getD i 0) i ↔ x ∈ ns.take i
  | 0, _ => ⟨List.nodup_nil, fun x => by show x ∈ [] ↔ x ∈ ns.take 0; simp⟩
  | i + 1, hi => by
    obtain ⟨h1, h2⟩ := firstMet_spec (ns := ns) i (Nat.le_of_lt hi)
    obtain ⟨k1, k2⟩ := step_nodup (k := ns.getD i 0) h1
    rw [firstMet_succ]
    refine ⟨k1, fun x => ?_⟩
    have e : ns.getD i 0 = ns[i] := by rw [List.getD_eq_getElem?_getD, List.getElem?_eq_getElem hi]; rfl
    have e2 : ns.take (i + 1) = ns.take i ++ [ns[i]] := by rw [List.take_add_one, List.getElem?_eq_getElem hi]; rfl
    rw [k2, h2, e, e2, List.mem_append, List.mem_singleton]
def tLenSet (K : PySem.W.Frag) (ta : TE) : TE := fun σ H Q => ta σ H fun x H1 => ∃ (l : Addr) (ns : List Int), x = V.ref l ∧ (SqL K H1 l (ns.map V.int) ∨ SqT K H1 l (ns.map V.int)) ∧ ns.length ≤ 4000 ∧ ∀ c : Nat, (c = ns.length ↔ ns.Nodup) → c ≤ ns.length → Q (.int (c : Nat)) H1
theorem pe_lenSetA {X : Cx} {a : Expr} {ta : TE} {p p2 q pos : Pos} (hg : Gl X "len") (hm : X.mg "len" = none) (hg2 : Gl X "set") (hm2 : X.mg "set" = none) (ha : PE X a ta) (hc : X.calm = true := by rfl)
    (na : starEach [a] X.env = (false, eval a X.env) :: starEach [] X.env := by rfl) : PE X (.Call (.Name "len" p) [.Call (.Name "set" p2) [a] [] q] [] pos) (tLenSet X.K ta) := by
  refine ⟨fun pins s σ H Q I h => ?_⟩
  refine Call_ (ld_blt I hg hm PySem.boot_len ?_)
  refine PyProof.Rows.callWith_builtin1 (PyProof.Rows.args_cons ?_ rfl) rfl rfl
  refine Call_ (ld_blt I hg2 hm2 PyProof.Rows.boot_set ?_)
  refine PyProof.Rows.callWith_type1 (PyProof.Rows.args_cons (thn (ha.run pins s σ H _ I h) fun v s1 ⟨x, H1, I1, r1, q1⟩ => PyProof.Rows.args_nil ?_) na) na rfl
  obtain ⟨l, ns, rfl, hq, hl, q1⟩ := q1
  cases r1
  rcases hq with hq | hq
  · obtain ⟨its, r, pl, hz⟩ := I1.list hq
    have hlen : its.toArray.size = ns.length := by rw [List.size_toArray, ← r.length, List.length_map]
    refine call_set_list (I1.ok.hd hc) pl.isList (ns := ns) (by simpa using r.ints) (by rw [hlen]; unfold scanBound; omega) fun h' tk hS hk => ?_
    rw [hlen] at hS
    obtain ⟨f1, f2⟩ := firstMet_spec (ns := ns) ns.length (Nat.le_refl _)
    rw [List.take_length] at f2
    obtain ⟨c1, c2⟩ := card_iff f1 f2
    refine PyProof.Rows.args_nil ?_
    obtain ⟨o, es, ep, t, ho, hex, hd, _, _, _, hf, hn⟩ := hS
    have I2 : Inv X pins σ H1 { s1 with heap := h', toks := tk } := I1.kept fun b o e => hk b o (Heap.lt_size e) e
    refine call_len_set ho hex hd hf (by rw [hn]; omega) ⟨.int ((es.size : Nat) : Int), H1, I2.tok _, ⟨_, rfl⟩, by rw [hn]; exact q1 _ c1 c2⟩
  · obtain ⟨its, r, pl, hz⟩ := I1.tuple hq
    refine call_set_tupI ns (I1.ok.hd hc) pl (by simpa using r.ints) (by unfold scanBound; omega) fun h' tk c hS _ hk => ?_
    refine PyProof.Rows.args_nil ?_
    obtain ⟨o, es, ep, t, ho, hex, hd, _, hnd, hS, _, hf, hn, _⟩ := hS
    obtain ⟨c1, c2⟩ := card_iff (ns := ns) hnd fun k => by rw [← hS k]; simp
    have hsz : (es.toList.map keyOf).length = c := by rw [List.length_map, Array.length_toList, hn]
    rw [hsz] at c1 c2
    have I2 : Inv X pins σ H1 { s1 with heap := h', toks := tk } := I1.kept hk
    refine call_len_set ho hex hd hf (by rw [hn]; omega) ⟨.int ((es.size : Nat) : Int), H1, I2.tok _, ⟨_, rfl⟩, by rw [hn]; exact q1 c c1 c2⟩
end Br

/-! ### what spread gates do -/
namespace Br
open PySem PySem.Spec PyProof.Rows L2
def ups : List Nat → List Nat → List Gt
  | T :: T' :: Ts, C :: Cs => two T T' C :: ups (T' :: Ts) Cs
  | _, _ => []
theorem ups_get : ∀ {Ts Cs : List Nat} {j : Nat}, j + 1 < Ts.length → j < Cs.length → (ups Ts Cs)[j]? = some (two (Ts.getD j 0) (Ts.getD (j + 1) 0) (Cs.getD j 0))
  | T :: T' :: Ts, C :: Cs, 0, _, _ => rfl
  | T :: T' :: Ts, C :: Cs, j + 1, h1, h2 => by
    show (ups (T' :: Ts) Cs)[j]? = _
    rw [ups_get (by simpa using h1) (by simpa using h2)]
    rfl
  | [], _, _, h, _ => by simp at h
  | [_], _, _, h, _ => by simp at h
  | _ :: _ :: _, [], _, _, h => by simp at h
theorem ups_len : ∀ {Ts Cs : List Nat}, Ts.length ≤ Cs.length + 1 → (ups Ts Cs).length = Ts.length - 1
  | [], _, _ => by simp [ups]
  | [_], _, _ => by simp [ups]
  | T :: T' :: Ts, C :: Cs, h => by
    show (ups (T' :: Ts) Cs).length + 1 = _
    rw [ups_len (by simpa using h)]
    simp
  | _ :: _ :: _, [], h => by simp at h
theorem down_ups {t : Nat} {cs bs : List Nat} (h : bs.length + 1 ≤ cs.length) : downF t cs bs = ups (turnF t bs) cs.reverse := by
  apply List.ext_getElem?
  intro j
  by_cases hj : j < bs.length
  · rw [down_get hj, ups_get (by rw [turn_len]; omega) (by rw [List.length_reverse]; omega)]
    congr 2
    rw [List.getD_eq_getElem?_getD, List.getD_eq_getElem?_getD, List.getElem?_reverse (by omega)]
  · rw [List.getElem?_eq_none (by rw [down_len]; omega), List.getElem?_eq_none (by rw [ups_len (by rw [turn_len, List.length_reverse]; omega), turn_len]; omega)]
theorem perfG_two {bs : List Bool} {t a b : Nat} : perfG bs (two t a b) = if bs.getD a false && bs.getD b false then bs.set t (!bs.getD t false) else bs := by
  unfold perfG two
  by_cases h : a < b
  · rw [if_pos h]
    simp only [List.all_cons, List.all_nil, Bool.and_true]
  · rw [if_neg h]
    simp only [List.all_cons, List.all_nil, Bool.and_true]
    rw [Bool.and_comm]
theorem getD_tog {bs : List Bool} {t x : Nat} {c : Bool} (ht : t < bs.length) : (if c then bs.set t (!bs.getD t false) else bs).getD x false = (bs.getD x false ^^ (decide (x = t) && c)) := by
  cases c with
  | false => rw [if_neg (by decide), Bool.and_false, Bool.xor_false]
  | true =>
    rw [if_pos rfl, Bool.and_true]
    by_cases e : x = t
    · subst e
      rw [decide_eq_true rfl, List.getD_eq_getElem?_getD (l := bs.set _ _), List.getElem?_set_self ht]
      simp
    · rw [decide_eq_false e, Bool.xor_false, getD_setB (fun h => e h.symm)]
/-- by what the bits are turned over -/
def markF (b : Nat → Bool) (q : Bool) : List Nat → List Nat → Nat → Bool
  | T :: Ts, Cs, x => if x = T then q && (Cs.take Ts.length).all b else markF b q Ts Cs.tail x
  | [], _, _ => false
theorem mark_none {b : Nat → Bool} {q : Bool} : ∀ {Ts Cs : List Nat} {x : Nat}, x ∉ Ts → markF b q Ts Cs x = false
  | [], _, _, _ => rfl
  | T :: Ts, Cs, x, h => by
    show (if x = T then _ else _) = false
    rw [if_neg (fun e => h (by rw [e]; exact List.mem_cons_self))]
    exact mark_none fun hx => h (List.mem_cons_of_mem _ hx)
theorem mark_congr {b c : Nat → Bool} {q : Bool} : ∀ {Ts Cs : List Nat} {x : Nat}, (∀ y, y ∈ Cs → b y = c y) → markF b q Ts Cs x = markF c q Ts Cs x
  | [], _, _, _ => rfl
  | T :: Ts, Cs, x, h => by
    show (if x = T then q && (Cs.take Ts.length).all b else _) = (if x = T then q && (Cs.take Ts.length).all c else _)
    have e : (Cs.take Ts.length).all b = (Cs.take Ts.length).all c := by
      rw [Bool.eq_iff_iff, List.all_eq_true, List.all_eq_true]
      exact ⟨fun z y hy => by rw [← h y (List.mem_of_mem_take hy)]; exact z y hy, fun z y hy => by rw [h y (List.mem_of_mem_take hy)]; exact z y hy⟩
    rw [e, mark_congr (Ts := Ts) fun y hy => h y (List.mem_of_mem_tail hy)]
theorem half_ok {c0 c1 : Nat} : ∀ {Ts Cs : List Nat} {bs : List Bool} {z : Nat}, Ts.getLast? = some z → Ts.Nodup → (∀ x, x ∈ Ts → x < bs.length) → Ts.length ≤ Cs.length + 1 → (∀ x, x ∈ Ts → x ∉ Cs ∧ x ≠ c0 ∧ x ≠ c1) →
    ∀ x, (perfF (ups Ts Cs ++ [(z, [c0, c1])] ++ (ups Ts Cs).reverse) bs).getD x false = (bs.getD x false ^^ markF (fun y => bs.getD y false) (bs.getD c0 false && bs.getD c1 false) Ts Cs x)
  | [], _, _, _, h, _, _, _, _ => by cases h
  | [T], Cs, bs, z, hz, _, hb, _, _ => by
    intro x
    have e : z = T := (Option.some.inj hz).symm
    subst e
    show (perfG bs (z, [c0, c1])).getD x false = _
    have e : perfG bs (z, [c0, c1]) = if bs.getD c0 false && bs.getD c1 false then bs.set z (!bs.getD z false) else bs := by
      unfold perfG
      simp only [List.all_cons, List.all_nil, Bool.and_true]
    rw [e, getD_tog (hb z List.mem_cons_self)]
    congr 1
    show _ = if x = z then (bs.getD c0 false && bs.getD c1 false) && true else false
    by_cases hx : x = z
    · rw [if_pos hx, decide_eq_true hx, Bool.true_and, Bool.and_true]
    · rw [if_neg hx, decide_eq_false hx, Bool.false_and]
  | T :: T' :: Ts, C :: Cs, bs, z, hz, hn, hb, hl, hd => by
    intro x
    rw [List.nodup_cons] at hn
    have hT := hb T List.mem_cons_self
    obtain ⟨hTC, hT0, hT1⟩ := hd T List.mem_cons_self
    obtain ⟨hT'C, hT'0, hT'1⟩ := hd T' (List.mem_cons_of_mem _ List.mem_cons_self)
    have hTT' : T ≠ T' := fun e => hn.1 (by rw [e]; exact List.mem_cons_self)
    have hTc : T ≠ C := fun e => hTC (by rw [e]; exact List.mem_cons_self)
    have hT'c : T' ≠ C := fun e => hT'C (by rw [e]; exact List.mem_cons_self)
    have e0 : perfF (ups (T :: T' :: Ts) (C :: Cs) ++ [(z, [c0, c1])] ++ (ups (T :: T' :: Ts) (C :: Cs)).reverse) bs = perfG (perfF (ups (T' :: Ts) Cs ++ [(z, [c0, c1])] ++ (ups (T' :: Ts) Cs).reverse) (perfG bs (two T T' C))) (two T T' C) := by
      show perfF (two T T' C :: ups (T' :: Ts) Cs ++ [(z, [c0, c1])] ++ (two T T' C :: ups (T' :: Ts) Cs).reverse) bs = _
      rw [List.reverse_cons, ← List.append_assoc, perfF_snoc]
      rfl
    rw [e0]
    -- behind the first gate
    have g1 : ∀ y, (perfG bs (two T T' C)).getD y false = (bs.getD y false ^^ (decide (y = T) && (bs.getD T' false && bs.getD C false))) := fun y => by rw [perfG_two, getD_tog hT]
    have l1 : (perfG bs (two T T' C)).length = bs.length := perfG_len
    generalize perfG bs (two T T' C) = b1 at g1 l1
    have g1n : ∀ y, y ≠ T → b1.getD y false = bs.getD y false := fun y hy => by rw [g1, decide_eq_false hy, Bool.false_and, Bool.xor_false]
    have g2 := half_ok (c0 := c0) (c1 := c1) (Ts := T' :: Ts) (Cs := Cs) (bs := b1) (z := z) hz hn.2 (fun y hy => by rw [l1]; exact hb y (List.mem_cons_of_mem _ hy)) (by simpa using hl) (fun y hy => ⟨fun h => (hd y (List.mem_cons_of_mem _ hy)).1 (List.mem_cons_of_mem _ h), (hd y (List.mem_cons_of_mem _ hy)).2⟩)
    have l2 : (perfF (ups (T' :: Ts) Cs ++ [(z, [c0, c1])] ++ (ups (T' :: Ts) Cs).reverse) b1).length = bs.length := by rw [perfF_len, l1]
    generalize perfF (ups (T' :: Ts) Cs ++ [(z, [c0, c1])] ++ (ups (T' :: Ts) Cs).reverse) b1 = b2 at g2 l2
    have em : ∀ y, markF (fun y => b1.getD y false) (b1.getD c0 false && b1.getD c1 false) (T' :: Ts) Cs y = markF (fun y => bs.getD y false) (bs.getD c0 false && bs.getD c1 false) (T' :: Ts) Cs y := fun y => by
      rw [g1n c0 (fun e => hT0 e.symm), g1n c1 (fun e => hT1 e.symm)]
      exact mark_congr fun w hw => g1n w fun e => hTC (by rw [← e]; exact List.mem_cons_of_mem _ hw)
    have g2 : ∀ y, b2.getD y false = (b1.getD y false ^^ markF (fun y => bs.getD y false) (bs.getD c0 false && bs.getD c1 false) (T' :: Ts) Cs y) := fun y => by rw [g2, em]
    have hqT' : markF (fun y => bs.getD y false) (bs.getD c0 false && bs.getD c1 false) (T' :: Ts) Cs T' = ((bs.getD c0 false && bs.getD c1 false) && (Cs.take Ts.length).all fun y => bs.getD y false) := if_pos rfl
    rw [perfG_two, getD_tog (by rw [l2]; exact hT), g2, g2 T', g2 C, g1n T' (fun e => hTT' e.symm), g1n C (fun e => hTc e.symm), hqT']
    have hCn : C ∉ T' :: Ts := fun h => (hd C (List.mem_cons_of_mem _ h)).1 List.mem_cons_self
    rw [mark_none (x := C) hCn, Bool.xor_false]
    show _ = (_ ^^ (if x = T then (bs.getD c0 false && bs.getD c1 false) && ((C :: Cs).take (Ts.length + 1)).all (fun y => bs.getD y false) else markF _ _ (T' :: Ts) Cs x))
    by_cases hx : x = T
    · subst hx
      rw [g1, decide_eq_true rfl, if_pos rfl, mark_none hn.1, List.take_succ_cons, List.all_cons]
      cases bs.getD x false <;> cases bs.getD T' false <;> cases bs.getD C false <;> cases bs.getD c0 false <;> cases bs.getD c1 false <;> cases ((Cs.take Ts.length).all fun y => bs.getD y false) <;> rfl
    · rw [g1n x hx, decide_eq_false hx, if_neg hx, Bool.false_and, Bool.xor_false]
  | _ :: _ :: _, [], _, _, _, _, _, hl, _ => by simp at hl
theorem bits_ext {a b : List Bool} (hl : a.length = b.length) (h : ∀ x, a.getD x false = b.getD x false) : a = b := by
  apply List.ext_getElem hl
  intro i h1 h2
  have := h i
  rw [List.getD_eq_getElem?_getD, List.getD_eq_getElem?_getD, List.getElem?_eq_getElem h1, List.getElem?_eq_getElem h2] at this
  exact this
theorem perfF_app {gs hs : List Gt} {bs : List Bool} : perfF (gs ++ hs) bs = perfF hs (perfF gs bs) := by
  unfold perfF
  rw [List.foldl_append]
theorem ups_drop : ∀ {Ts Cs : List Nat}, (ups Ts Cs).drop 1 = ups Ts.tail Cs.tail
  | [], Cs => by cases Cs <;> rfl
  | [_], Cs => by cases Cs <;> rfl
  | T :: T' :: Ts, C :: Cs => rfl
  | _ :: T' :: Ts, [] => by cases Ts <;> rfl
theorem turn_last {t : Nat} {bs : List Nat} : (turnF t bs).getLast? = some ((turnF t bs).getD bs.length 0) := by
  rw [List.getLast?_eq_getElem?, turn_len, List.getD_eq_getElem?_getD, Nat.add_sub_cancel, List.getElem?_eq_getElem (by rw [turn_len]; omega)]
  rfl
/-- together they do what the gate does -/
theorem spread_ok {t : Nat} {cs bs : List Nat} {bits : List Bool} (hl : bs.length = cs.length - 2) (hnd : (t :: cs ++ bs).Nodup) (hb : ∀ x, x ∈ t :: cs ++ bs → x < bits.length) : perfF (spreadF t cs bs) bits = perfG bits (t, cs) := by
  unfold spreadF
  by_cases h0 : bs = []
  · rw [if_pos h0]; rfl
  rw [if_neg h0]
  have hbl : 0 < bs.length := List.length_pos_iff.mpr h0
  obtain ⟨c0, c1, cr, rfl⟩ : ∃ c0 c1 cr, cs = c0 :: c1 :: cr := by
    match cs, hl with
    | [], hl => simp at hl; exact absurd hl h0
    | [_], hl => simp at hl; exact absurd hl h0
    | c0 :: c1 :: cr, _ => exact ⟨c0, c1, cr, rfl⟩
  have hcl : cr.length = bs.length := by simp at hl; omega
  have eD := down_ups (t := t) (cs := c0 :: c1 :: cr) (bs := bs) (by simp; omega)
  have eL : lastF t (c0 :: c1 :: cr) bs = ((turnF t bs).getD bs.length 0, [c0, c1]) := rfl
  rw [eD, eL, ups_drop]
  have hzl := turn_last (t := t) (bs := bs)
  generalize (turnF t bs).getD bs.length 0 = z at hzl
  obtain ⟨b0, br, hbr⟩ : ∃ b0 br, bs.reverse = b0 :: br := by
    cases h : bs.reverse with
    | nil => exact absurd (List.reverse_eq_nil_iff.mp h) h0
    | cons b0 br => exact ⟨b0, br, rfl⟩
  have eT : turnF t bs = t :: b0 :: br := by unfold turnF; rw [hbr]
  have hmem : ∀ x, x ∈ b0 :: br ↔ x ∈ bs := fun x => by rw [← hbr]; exact List.mem_reverse
  rw [List.nodup_append, List.nodup_cons] at hnd
  obtain ⟨⟨htc, hcn⟩, hbn, hdis⟩ := hnd
  have hTn : (t :: b0 :: br).Nodup := by
    rw [List.nodup_cons, ← hbr]
    exact ⟨fun h => hdis t List.mem_cons_self t (List.mem_reverse.mp h) rfl, List.pairwise_reverse.mpr (hbn.imp fun h => h.symm)⟩
  have hTb : ∀ x, x ∈ t :: b0 :: br → x < bits.length := fun x hx => by
    rcases List.mem_cons.mp hx with rfl | hx
    · exact hb x (by simp)
    · exact hb x (List.mem_append.mpr (.inr ((hmem x).mp hx)))
  have hTd : ∀ x, x ∈ t :: b0 :: br → x ∉ (c0 :: c1 :: cr).reverse ∧ x ≠ c0 ∧ x ≠ c1 := fun x hx => by
    have : x ∉ c0 :: c1 :: cr := by
      rcases List.mem_cons.mp hx with rfl | hx
      · exact htc
      · exact fun h => hdis x (List.mem_cons_of_mem _ h) x ((hmem x).mp hx) rfl
    exact ⟨fun h => this (List.mem_reverse.mp h), fun e => this (by rw [e]; exact List.mem_cons_self), fun e => this (by rw [e]; exact List.mem_cons_of_mem _ List.mem_cons_self)⟩
  have hrl : (c0 :: c1 :: cr).reverse.length = bs.length + 2 := by rw [List.length_reverse]; simp; omega
  have hbl2 : (b0 :: br).length = bs.length := by rw [← hbr, List.length_reverse]
  rw [eT] at hzl ⊢
  rw [List.append_assoc (ups (t :: b0 :: br) (c0 :: c1 :: cr).reverse ++ [(z, [c0, c1])] ++ (ups (t :: b0 :: br) (c0 :: c1 :: cr).reverse).reverse), List.append_assoc (ups (t :: b0 :: br) (c0 :: c1 :: cr).reverse ++ [(z, [c0, c1])] ++ (ups (t :: b0 :: br) (c0 :: c1 :: cr).reverse).reverse), perfF_app]
  have g1 := half_ok (c0 := c0) (c1 := c1) (Ts := t :: b0 :: br) (Cs := (c0 :: c1 :: cr).reverse) (bs := bits) (z := z) hzl hTn hTb (by rw [hrl, List.length_cons, hbl2]; omega) hTd
  have l1 : (perfF (ups (t :: b0 :: br) (c0 :: c1 :: cr).reverse ++ [(z, [c0, c1])] ++ (ups (t :: b0 :: br) (c0 :: c1 :: cr).reverse).reverse) bits).length = bits.length := perfF_len
  generalize perfF (ups (t :: b0 :: br) (c0 :: c1 :: cr).reverse ++ [(z, [c0, c1])] ++ (ups (t :: b0 :: br) (c0 :: c1 :: cr).reverse).reverse) bits = b1 at g1 l1
  show perfF (ups (b0 :: br) (c0 :: c1 :: cr).reverse.tail ++ [(z, [c0, c1])] ++ (ups (b0 :: br) (c0 :: c1 :: cr).reverse.tail).reverse) b1 = _
  have g2 := half_ok (c0 := c0) (c1 := c1) (Ts := b0 :: br) (Cs := (c0 :: c1 :: cr).reverse.tail) (bs := b1) (z := z) hzl (List.nodup_cons.mp hTn).2 (fun x hx => by rw [l1]; exact hTb x (List.mem_cons_of_mem _ hx)) (by rw [List.length_tail, hrl, hbl2]; omega) (fun x hx => ⟨fun h => (hTd x (List.mem_cons_of_mem _ hx)).1 (List.mem_of_mem_tail h), (hTd x (List.mem_cons_of_mem _ hx)).2⟩)
  have same : ∀ y, y ∉ t :: b0 :: br → b1.getD y false = bits.getD y false := fun y hy => by rw [g1, mark_none hy, Bool.xor_false]
  have hc0 : c0 ∉ t :: b0 :: br := fun h => (hTd c0 h).2.1 rfl
  have hc1 : c1 ∉ t :: b0 :: br := fun h => (hTd c1 h).2.2 rfl
  have em : ∀ y, markF (fun y => b1.getD y false) (b1.getD c0 false && b1.getD c1 false) (b0 :: br) (c0 :: c1 :: cr).reverse.tail y = markF (fun y => bits.getD y false) (bits.getD c0 false && bits.getD c1 false) (b0 :: br) (c0 :: c1 :: cr).reverse.tail y := fun y => by
    rw [same c0 hc0, same c1 hc1]
    exact mark_congr fun w hw => same w fun h => (hTd w h).1 (List.mem_of_mem_tail hw)
  apply bits_ext (by rw [perfF_len, l1, perfG_len])
  intro x
  rw [g2, em, g1]
  have eG : perfG bits (t, c0 :: c1 :: cr) = if (c0 :: c1 :: cr).all (fun c => bits.getD c false) then bits.set t (!bits.getD t false) else bits := rfl
  rw [eG, getD_tog (hTb t List.mem_cons_self)]
  show ((_ ^^ (if x = t then _ else markF _ _ (b0 :: br) (c0 :: c1 :: cr).reverse.tail x)) ^^ markF _ _ (b0 :: br) (c0 :: c1 :: cr).reverse.tail x) = _
  by_cases hx : x = t
  · subst hx
    rw [if_pos rfl, mark_none (List.nodup_cons.mp hTn).1, Bool.xor_false, decide_eq_true rfl, Bool.true_and]
    congr 1
    rw [hbl2]
    have e1 : (c0 :: c1 :: cr).reverse.take bs.length = cr.reverse := by
      rw [List.reverse_cons, List.reverse_cons, List.append_assoc, List.take_append_of_le_length (by rw [List.length_reverse]; omega)]
      exact List.take_of_length_le (by rw [List.length_reverse]; omega)
    rw [e1, List.all_reverse, List.all_cons, List.all_cons, Bool.and_assoc]
  · rw [if_neg hx, decide_eq_false hx, Bool.false_and, Bool.xor_false, Bool.xor_assoc, Bool.xor_self, Bool.xor_false]
end Br
namespace Br
open PySem PySem.Spec PyProof.Rows L2
theorem two_2 {t a b : Nat} (h : a ≠ b) : ∃ x y, (two t a b).2 = [x, y] ∧ x < y ∧ ((x = a ∧ y = b) ∨ (x = b ∧ y = a)) := by
  unfold two
  by_cases hh : a < b
  · rw [if_pos hh]; exact ⟨a, b, rfl, hh, .inl ⟨rfl, rfl⟩⟩
  · rw [if_neg hh]; exact ⟨b, a, rfl, by omega, .inr ⟨rfl, rfl⟩⟩
/-- a gate with two controls among so many bits -/
structure TwoOk (U : List Nat) (g : Gt) : Prop where
  ex : ∃ x y, g.2 = [x, y] ∧ x < y ∧ g.1 ≠ x ∧ g.1 ≠ y ∧ g.1 ∈ U ∧ x ∈ U ∧ y ∈ U
theorem TwoOk.gt {U : List Nat} {n : Nat} {g : Gt} (h : TwoOk U g) (hU : ∀ x, x ∈ U → x < n) : GtOk n g := by
  obtain ⟨x, y, e, h1, h2, h3, h4, h5, h6⟩ := h.ex
  refine ⟨hU _ h4, fun c hc => ?_, fun hm => ?_, ?_⟩
  · rw [e] at hc
    simp only [List.mem_cons, List.not_mem_nil, or_false] at hc
    rcases hc with rfl | rfl
    · exact hU _ h5
    · exact hU _ h6
  · rw [e] at hm
    simp only [List.mem_cons, List.not_mem_nil, or_false] at hm
    rcases hm with hm | hm
    · exact h2 hm
    · exact h3 hm
  · rw [e]
    simp [h1]
theorem getD_mem2 {xs : List Nat} {i : Nat} (h : i < xs.length) : xs.getD i 0 ∈ xs := by
  rw [List.getD_eq_getElem?_getD, List.getElem?_eq_getElem h]
  exact List.getElem_mem _
theorem getD_ne {xs : List Nat} {i j : Nat} (hn : xs.Nodup) (hi : i < xs.length) (hj : j < xs.length) (h : i ≠ j) : xs.getD i 0 ≠ xs.getD j 0 := by
  rw [List.getD_eq_getElem?_getD, List.getD_eq_getElem?_getD, List.getElem?_eq_getElem hi, List.getElem?_eq_getElem hj]
  intro e
  have e : xs[i] = xs[j] := e
  rcases Nat.lt_or_gt_of_ne h with hlt | hlt
  · exact List.pairwise_iff_getElem.mp hn i j hi hj hlt e
  · exact List.pairwise_iff_getElem.mp hn j i hj hi hlt e.symm
theorem spread_two {t : Nat} {cs bs : List Nat} (hl : bs.length = cs.length - 2) (h3 : 3 ≤ cs.length) (hup : cs.Pairwise (· < ·)) (hnd : (t :: cs ++ bs).Nodup) : (spreadF t cs bs).length = 4 * (cs.length - 2) ∧ ∀ g, g ∈ spreadF t cs bs → TwoOk (t :: cs ++ bs) g := by
  have h0 : bs ≠ [] := fun e => by rw [e] at hl; simp at hl; omega
  rw [List.nodup_append, List.nodup_cons] at hnd
  obtain ⟨⟨htc, hcn⟩, hbn, hdis⟩ := hnd
  have hTn : (turnF t bs).Nodup := by
    unfold turnF
    rw [List.nodup_cons]
    exact ⟨fun h => hdis t List.mem_cons_self t (List.mem_reverse.mp h) rfl, List.pairwise_reverse.mpr (hbn.imp fun h => h.symm)⟩
  have hTU : ∀ x, x ∈ turnF t bs → x ∈ t :: cs ++ bs ∧ x ∉ cs := fun x hx => by
    rcases List.mem_cons.mp hx with rfl | hx
    · exact ⟨by simp, htc⟩
    · have hx := List.mem_reverse.mp hx
      exact ⟨List.mem_append.mpr (.inr hx), fun h => hdis x (List.mem_cons_of_mem _ h) x hx rfl⟩
  have hD : ∀ g, g ∈ downF t cs bs → TwoOk (t :: cs ++ bs) g := fun g hg => by
    obtain ⟨j, hj, rfl⟩ := List.mem_map.mp hg
    have hj := List.mem_range.mp hj
    have a1 := getD_mem2 (xs := turnF t bs) (i := j) (by rw [turn_len]; omega)
    have a2 := getD_mem2 (xs := turnF t bs) (i := j + 1) (by rw [turn_len]; omega)
    have a3 := getD_mem2 (xs := cs) (i := cs.length - 1 - j) (by omega)
    have n1 := getD_ne (i := j) (j := j + 1) hTn (by rw [turn_len]; omega) (by rw [turn_len]; omega) (by omega)
    generalize (turnF t bs).getD j 0 = x at a1 n1
    generalize (turnF t bs).getD (j + 1) 0 = y at a2 n1
    generalize cs.getD (cs.length - 1 - j) 0 = c at a3
    obtain ⟨u1, u2⟩ := hTU x a1
    obtain ⟨v1, v2⟩ := hTU y a2
    have hxc : x ≠ c := fun e => u2 (by rw [e]; exact a3)
    have hyc : y ≠ c := fun e => v2 (by rw [e]; exact a3)
    have cU : c ∈ t :: cs ++ bs := by simp [a3]
    obtain ⟨p, q, e, hpq, h⟩ := two_2 (t := x) hyc
    refine ⟨p, q, e, hpq, ?_⟩
    rcases h with ⟨rfl, rfl⟩ | ⟨rfl, rfl⟩
    · exact ⟨n1, hxc, u1, v1, cU⟩
    · exact ⟨hxc, n1, u1, cU, v1⟩
  have hL : TwoOk (t :: cs ++ bs) (lastF t cs bs) := by
    have a1 := getD_mem2 (xs := turnF t bs) (i := bs.length) (by rw [turn_len]; omega)
    obtain ⟨u1, u2⟩ := hTU _ a1
    match cs, h3 with
    | c0 :: c1 :: cr, _ =>
      refine ⟨c0, c1, rfl, (List.pairwise_cons.mp hup).1 c1 List.mem_cons_self, fun e => u2 (by rw [← e]; exact List.mem_cons_self), fun e => u2 (by rw [← e]; exact List.mem_cons_of_mem _ List.mem_cons_self), u1, by simp, by simp⟩
  unfold spreadF
  rw [if_neg h0]
  constructor
  · simp only [List.length_append, List.length_reverse, List.length_drop, List.length_cons, List.length_nil, down_len]
    have := List.length_pos_iff.mpr h0
    omega
  · intro g hg
    simp only [List.mem_append, List.mem_reverse, List.mem_cons, List.not_mem_nil, or_false] at hg
    rcases hg with ((((h | h) | h) | h) | h) | h
    · exact hD g h
    · rw [h]; exact hL
    · exact hD g h
    · exact hD g (List.mem_of_mem_drop h)
    · rw [h]; exact hL
    · exact hD g (List.mem_of_mem_drop h)
end Br








namespace Br
open PySem PySem.Spec PyProof.Rows L2
def topS (i : Nat) : Stmt := PySem.Challenge.pw_brimful_k32_gates_are_spread.main.body.getD i (.Pass ⟨0, 0, 0, 0⟩)
abbrev s_is_below : Stmt := topS 4
abbrev N_is_below : List Str := ["value", "bound"]
theorem sc_is_below : FnScope N_is_below ["value", "bound"] (defScope s_is_below) := ⟨rfl, rfl, rfl, by decide +kernel, rfl, by decide +kernel, by decide +kernel⟩
abbrev s_is_gate : Stmt := topS 7
abbrev N_is_gate : List Str := ["gate", "target", "controls"]
theorem sc_is_gate : FnScope N_is_gate ["gate"] (defScope s_is_gate) := ⟨rfl, rfl, rfl, by decide +kernel, rfl, by decide +kernel, by decide +kernel⟩
abbrev s_is_bit : Stmt := topS 8
abbrev N_is_bit : List Str := ["value"]
theorem sc_is_bit : FnScope N_is_bit ["value"] (defScope s_is_bit) := ⟨rfl, rfl, rfl, by decide +kernel, rfl, by decide +kernel, by decide +kernel⟩
abbrev s_are_rising : Stmt := topS 9
abbrev N_are_rising : List Str := ["controls", "last", "control"]
theorem sc_are_rising : FnScope N_are_rising ["controls"] (defScope s_are_rising) := ⟨rfl, rfl, rfl, by decide +kernel, rfl, by decide +kernel, by decide +kernel⟩
abbrev s_spread : Stmt := topS 10
abbrev N_spread : List Str := ["target", "controls", "borrowed", "turned", "down", "last", "again", "at"]
theorem sc_spread : FnScope N_spread ["target", "controls", "borrowed"] (defScope s_spread) := ⟨rfl, rfl, rfl, by decide +kernel, rfl, by decide +kernel, by decide +kernel⟩
abbrev s_are_borrowed : Stmt := topS 11
abbrev N_are_borrowed : List Str := ["borrowed", "needed", "taken", "bit"]
theorem sc_are_borrowed : FnScope N_are_borrowed ["borrowed", "needed", "taken"] (defScope s_are_borrowed) := ⟨rfl, rfl, rfl, by decide +kernel, rfl, by decide +kernel, by decide +kernel⟩
abbrev s_gate_of_two : Stmt := topS 12
abbrev N_gate_of_two : List Str := ["target", "a", "b"]
theorem sc_gate_of_two : FnScope N_gate_of_two ["target", "a", "b"] (defScope s_gate_of_two) := ⟨rfl, rfl, rfl, by decide +kernel, rfl, by decide +kernel, by decide +kernel⟩
abbrev s_law_mixed : Stmt := topS 14
abbrev N_law_mixed : List Str := ["number", "k", "step"]
theorem sc_law_mixed : FnScope N_law_mixed ["number", "k"] (defScope s_law_mixed) := ⟨rfl, rfl, rfl, by decide +kernel, rfl, by decide +kernel, by decide +kernel⟩
abbrev s_law_numbers : Stmt := topS 15
abbrev N_law_numbers : List Str := ["script", "numbers", "cell", "rest", "k"]
theorem sc_law_numbers : FnScope N_law_numbers ["script"] (defScope s_law_numbers) := ⟨rfl, rfl, rfl, by decide +kernel, rfl, by decide +kernel, by decide +kernel⟩
abbrev s_law_draw : Stmt := topS 16
abbrev N_law_draw : List Str := ["draws", "at", "first"]
theorem sc_law_draw : FnScope N_law_draw ["draws"] (defScope s_law_draw) := ⟨rfl, rfl, rfl, by decide +kernel, rfl, by decide +kernel, by decide +kernel⟩
abbrev s_law_equal : Stmt := topS 17
abbrev N_law_equal : List Str := ["actual", "due"]
theorem sc_law_equal : FnScope N_law_equal ["actual", "due"] (defScope s_law_equal) := ⟨rfl, rfl, rfl, by decide +kernel, rfl, by decide +kernel, by decide +kernel⟩
abbrev s_law_all_equal : Stmt := topS 18
abbrev N_law_all_equal : List Str := ["actual", "due", "k"]
theorem sc_law_all_equal : FnScope N_law_all_equal ["actual", "due"] (defScope s_law_all_equal) := ⟨rfl, rfl, rfl, by decide +kernel, rfl, by decide +kernel, by decide +kernel⟩
abbrev s_law_perform : Stmt := topS 19
abbrev N_law_perform : List Str := ["gates", "bits", "after", "target", "controls", "bit"]
theorem sc_law_perform : FnScope N_law_perform ["gates", "bits"] (defScope s_law_perform) := ⟨rfl, rfl, rfl, by decide +kernel, rfl, by decide +kernel, by decide +kernel⟩
abbrev s_law_places : Stmt := topS 20
abbrev N_law_places : List Str := ["draws", "many", "places", "step", "at", "k"]
theorem sc_law_places : FnScope N_law_places ["draws", "many"] (defScope s_law_places) := ⟨rfl, rfl, rfl, by decide +kernel, rfl, by decide +kernel, by decide +kernel⟩
abbrev s_law_is_list : Stmt := topS 21
abbrev N_law_is_list : List Str := ["gates", "many", "used", "gate", "bit"]
theorem sc_law_is_list : FnScope N_law_is_list ["gates", "many", "used"] (defScope s_law_is_list) := ⟨rfl, rfl, rfl, by decide +kernel, rfl, by decide +kernel, by decide +kernel⟩
abbrev s_law_contents : Stmt := topS 22
abbrev N_law_contents : List Str := ["draws", "controls", "bits", "k", "word", "j", "pick", "bit"]
theorem sc_law_contents : FnScope N_law_contents ["draws", "controls"] (defScope s_law_contents) := ⟨rfl, rfl, rfl, by decide +kernel, rfl, by decide +kernel, by decide +kernel⟩
abbrev s_law : Stmt := topS 23
abbrev N_law : List Str := ["script", "draws", "many", "places", "target", "controls", "borrowed", "given", "gates", "turn", "bits", "due"]
theorem sc_law : FnScope N_law ["script"] (defScope s_law) := ⟨rfl, rfl, rfl, by decide +kernel, rfl, by decide +kernel, by decide +kernel⟩
structure Txt (K : PySem.W.Frag) (mg : Str → Option Value) where
  a_is_below : Addr
  fd_is_below : FuncData
  F_is_below : Fun K "is_below" "is_below" s_is_below a_is_below fd_is_below
  b_is_below : Binds K fd_is_below ["value", "bound"] []
  g_is_below : mg "is_below" = some (.ref a_is_below)
  a_is_gate : Addr
  fd_is_gate : FuncData
  F_is_gate : Fun K "_is_gate" "_is_gate" s_is_gate a_is_gate fd_is_gate
  b_is_gate : Binds K fd_is_gate ["gate"] []
  g_is_gate : mg "_is_gate" = some (.ref a_is_gate)
  a_is_bit : Addr
  fd_is_bit : FuncData
  F_is_bit : Fun K "_is_bit" "_is_bit" s_is_bit a_is_bit fd_is_bit
  b_is_bit : Binds K fd_is_bit ["value"] []
  g_is_bit : mg "_is_bit" = some (.ref a_is_bit)
  a_are_rising : Addr
  fd_are_rising : FuncData
  F_are_rising : Fun K "_are_rising" "_are_rising" s_are_rising a_are_rising fd_are_rising
  b_are_rising : Binds K fd_are_rising ["controls"] []
  g_are_rising : mg "_are_rising" = some (.ref a_are_rising)
  a_spread : Addr
  fd_spread : FuncData
  F_spread : Fun K "spread" "spread" s_spread a_spread fd_spread
  b_spread : Binds K fd_spread ["target", "controls", "borrowed"] []
  g_spread : mg "spread" = some (.ref a_spread)
  a_are_borrowed : Addr
  fd_are_borrowed : FuncData
  F_are_borrowed : Fun K "_are_borrowed" "_are_borrowed" s_are_borrowed a_are_borrowed fd_are_borrowed
  b_are_borrowed : Binds K fd_are_borrowed ["borrowed", "needed", "taken"] []
  g_are_borrowed : mg "_are_borrowed" = some (.ref a_are_borrowed)
  a_gate_of_two : Addr
  fd_gate_of_two : FuncData
  F_gate_of_two : Fun K "_gate_of_two" "_gate_of_two" s_gate_of_two a_gate_of_two fd_gate_of_two
  b_gate_of_two : Binds K fd_gate_of_two ["target", "a", "b"] []
  g_gate_of_two : mg "_gate_of_two" = some (.ref a_gate_of_two)
  a_law_mixed : Addr
  fd_law_mixed : FuncData
  F_law_mixed : Fun K "_law_mixed" "_law_mixed" s_law_mixed a_law_mixed fd_law_mixed
  b_law_mixed : Binds K fd_law_mixed ["number", "k"] []
  g_law_mixed : mg "_law_mixed" = some (.ref a_law_mixed)
  a_law_numbers : Addr
  fd_law_numbers : FuncData
  F_law_numbers : Fun K "_law_numbers" "_law_numbers" s_law_numbers a_law_numbers fd_law_numbers
  b_law_numbers : Binds K fd_law_numbers ["script"] []
  g_law_numbers : mg "_law_numbers" = some (.ref a_law_numbers)
  a_law_draw : Addr
  fd_law_draw : FuncData
  F_law_draw : Fun K "_law_draw" "_law_draw" s_law_draw a_law_draw fd_law_draw
  b_law_draw : Binds K fd_law_draw ["draws"] []
  g_law_draw : mg "_law_draw" = some (.ref a_law_draw)
  a_law_equal : Addr
  fd_law_equal : FuncData
  F_law_equal : Fun K "_law_equal" "_law_equal" s_law_equal a_law_equal fd_law_equal
  b_law_equal : Binds K fd_law_equal ["actual", "due"] []
  g_law_equal : mg "_law_equal" = some (.ref a_law_equal)
  a_law_all_equal : Addr
  fd_law_all_equal : FuncData
  F_law_all_equal : Fun K "_law_all_equal" "_law_all_equal" s_law_all_equal a_law_all_equal fd_law_all_equal
  b_law_all_equal : Binds K fd_law_all_equal ["actual", "due"] []
  g_law_all_equal : mg "_law_all_equal" = some (.ref a_law_all_equal)
  a_law_perform : Addr
  fd_law_perform : FuncData
  F_law_perform : Fun K "_law_perform" "_law_perform" s_law_perform a_law_perform fd_law_perform
  b_law_perform : Binds K fd_law_perform ["gates", "bits"] []
  g_law_perform : mg "_law_perform" = some (.ref a_law_perform)
  a_law_places : Addr
  fd_law_places : FuncData
  F_law_places : Fun K "_law_places" "_law_places" s_law_places a_law_places fd_law_places
  b_law_places : Binds K fd_law_places ["draws", "many"] []
  g_law_places : mg "_law_places" = some (.ref a_law_places)
  a_law_is_list : Addr
  fd_law_is_list : FuncData
  F_law_is_list : Fun K "_law_is_list" "_law_is_list" s_law_is_list a_law_is_list fd_law_is_list
  b_law_is_list : Binds K fd_law_is_list ["gates", "many", "used"] []
  g_law_is_list : mg "_law_is_list" = some (.ref a_law_is_list)
  a_law_contents : Addr
  fd_law_contents : FuncData
  F_law_contents : Fun K "_law_contents" "_law_contents" s_law_contents a_law_contents fd_law_contents
  b_law_contents : Binds K fd_law_contents ["draws", "controls"] []
  g_law_contents : mg "_law_contents" = some (.ref a_law_contents)
  a_law : Addr
  fd_law : FuncData
  F_law : Fun K "law" "law" s_law a_law fd_law
  b_law : Binds K fd_law ["script"] []
  g_law : mg "law" = some (.ref a_law)
  E_BrimfulError : Addr
  gE_BrimfulError : mg "BrimfulError" = some (.ref E_BrimfulError)
  xE_BrimfulError : PySem.W.excIn K E_BrimfulError [.type "ValueError", .type "Exception", .type "BaseException", .type "object"] "ValueError.__new__" = true
  kE_BrimfulError : PySem.W.keepIn K (.ref E_BrimfulError) = true
  bE_BrimfulError : PySem.W.subIn K (.ref E_BrimfulError) (.type "BaseException") = some true
  tE_BrimfulError : PySem.W.typeIn K (.ref E_BrimfulError) = some (.type "type")
  dE_BrimfulError : PySem.W.hasDictIn K E_BrimfulError = true
  cE_BrimfulError : L2.ExcC K E_BrimfulError
  E_BadGate : Addr
  gE_BadGate : mg "BadGate" = some (.ref E_BadGate)
  xE_BadGate : PySem.W.excIn K E_BadGate [.type "ValueError", .type "Exception", .type "BaseException", .type "object"] "ValueError.__new__" = true
  kE_BadGate : PySem.W.keepIn K (.ref E_BadGate) = true
  bE_BadGate : PySem.W.subIn K (.ref E_BadGate) (.type "BaseException") = some true
  tE_BadGate : PySem.W.typeIn K (.ref E_BadGate) = some (.type "type")
  dE_BadGate : PySem.W.hasDictIn K E_BadGate = true
  cE_BadGate : L2.ExcC K E_BadGate
  sE_BrimfulError_BrimfulError : PySem.W.subIn K (.ref E_BrimfulError) (.ref E_BrimfulError) = some true
  sE_BrimfulError_BadGate : PySem.W.subIn K (.ref E_BrimfulError) (.ref E_BadGate) = some false
  sE_BadGate_BrimfulError : PySem.W.subIn K (.ref E_BadGate) (.ref E_BrimfulError) = some true
  sE_BadGate_BadGate : PySem.W.subIn K (.ref E_BadGate) (.ref E_BadGate) = some true
  m_all : mg "all" = none
  m_bool : mg "bool" = none
  m_int : mg "int" = none
  m_isinstance : mg "isinstance" = none
  m_len : mg "len" = none
  m_list : mg "list" = none
  m_max : mg "max" = none
  m_range : mg "range" = none
  m_set : mg "set" = none
  m_sorted : mg "sorted" = none
  m_str : mg "str" = none
  m_tuple : mg "tuple" = none
  t_MOST_BITS : Tok
  c_MOST_BITS : mg "MOST_BITS" = some (.int 120 t_MOST_BITS)
end Br
namespace Br
open PySem PySem.Spec PyProof.Rows L2
local macro_rules | `(tactic| walk_at "x1") => `(tactic| (with_reducible first
  | refine Br.x_seq ?_ | refine Br.x_set ?_ | refine Br.x_asg ?_ | refine Br.x_next ?_ | refine Br.x_ret ?_ | refine Br.x_retN ?_ | refine Br.x_drop ?_ | refine Br.x_if ?_ | refine Br.x_brk ?_ | refine Br.x_cont ?_
  | refine Br.x_c ?_ | refine Br.x_op ?_ | refine Br.x_un ?_ | refine Br.x_I0 ?_ | refine Br.x_U ?_ | refine Br.x_EqI ?_ | refine Br.x_NeI ?_ | refine Br.x_EqB ?_ | refine Br.x_iN ?_ | refine Br.x_int1 ?_ | refine Br.x_min2 ?_ | refine Br.x_max2 ?_ | refine Br.x_nN ?_ | refine Br.x_ifE ?_
  | refine Br.x_test (b := ()) ?_ | refine Br.x_tB ?_ | refine Br.x_bl ?_ | refine Br.x_and ?_ | refine Br.x_or ?_ | refine Br.x_not ?_ | refine Br.x_andV ?_ | refine Br.x_orV ?_ | refine Br.x_notV ?_ | refine Br.x_blP ?_
  | refine Br.x_nil ?_ | refine Br.x_cons ?_ | refine Br.x_call ?_ | refine Br.x_CB ?_ | refine Br.x_BM ?_ | refine Br.x_tup ?_ | refine Br.x_lst ?_ | refine Br.x_chain ?_ | refine Br.x_par ?_ | refine Br.x_gSub ?_ | refine Br.x_gName ?_ | refine Br.x_fld ?_ | refine Br.x_fldS ?_ | refine Br.x_match ?_ | refine Br.x_else ?_ | refine Br.x_noCase ?_))
local macro_rules | `(tactic| walk_at "xv") => `(tactic| ((with_reducible refine' Br.x_var ?hvar ?_); (case hvar => rfl)))
local macro_rules | `(tactic| walk_at "xd") => `(tactic| (dsimp only [List.set_cons_zero, List.set_cons_succ, List.cons_append, List.nil_append, List.append_nil]))
local macro_rules | `(tactic| walk_at "xi") => `(tactic| ((with_reducible refine Br.x_I ?hside ?_); (case hside => first | exact Br.mul_r (by decide) (by decide) | exact Br.mul_l (by decide) (by decide) | exact Br.mul_l (by omega) (by omega) | exact Br.mul_r (by omega) (by omega) | (show (0 : Int) < _; first | decide | omega) | exact ⟨by decide, by decide⟩ | exact ⟨by omega, by omega⟩ | exact ⟨by decide, by decide, by decide⟩)))
local macro_rules | `(tactic| walk_at "x") => `(tactic| (repeat (first | walk_at "x1" | walk_at "xv" | walk_at "xi" | walk_at "xd")))
local macro_rules | `(tactic| walk_at "start") => `(tactic| (simp only [L2.start, List.map_cons, List.map_nil, List.length_cons, List.length_nil, Nat.reduceAdd, Nat.reduceSub, List.replicate, List.cons_append, List.nil_append, List.append_nil]))
local macro_rules | `(tactic| walk_at "isi") => `(tactic| first
  | refine Br.x_isi (b := true) (.base (.int _)) (by decide +kernel) ?_ | refine Br.x_isi (b := false) (.base (.int _)) (by decide +kernel) ?_
  | refine Br.x_isi (b := true) (.base (.bl _)) (by decide +kernel) ?_ | refine Br.x_isi (b := false) (.base (.bl _)) (by decide +kernel) ?_
  | refine Br.x_isi (b := false) (.base .non) (by decide +kernel) ?_
  | refine Br.x_isi (b := true) (.base (.str _)) (by decide +kernel) ?_ | refine Br.x_isi (b := false) (.base (.str _)) (by decide +kernel) ?_
  | refine Br.x_isi (b := true) (.base (.tup (by assumption))) (by decide +kernel) ?_ | refine Br.x_isi (b := false) (.base (.tup (by assumption))) (by decide +kernel) ?_
  | refine Br.x_isi (b := true) (.base (.lst (by assumption))) (by decide +kernel) ?_ | refine Br.x_isi (b := false) (.base (.lst (by assumption))) (by decide +kernel) ?_)
local macro_rules | `(tactic| walk_at "f") => `(tactic| (refine L2.iteF ?_; walk_at "x"))
local macro_rules | `(tactic| walk_at "t") => `(tactic| (refine L2.iteT ?_; walk_at "x"))
local macro_rules | `(tactic| walk_at "is") => `(tactic| (walk_at "isi"; walk_at "x"))
local macro_rules | `(tactic| walk_at "xb") => `(tactic| (simp only [Br.bindS, List.set_cons_zero, List.set_cons_succ]; walk_at "x"))

section
variable {P : Program} {w : World} {K : PySem.W.Frag} {mg : Str → Option Value} {base : Heap}

/-! ### the draws -/
/-- the draws at d: a list of a list of numbers (at n) and a place -/
def Dr (H : Hp) (d n : Addr) : Prop := ∃ (ns : List Int) (k : Int), H d = some (.lst [.ref n, .int k]) ∧ H n = some (.lst (ns.map V.int)) ∧ Rg 0 1000000 ns ∧ 0 ≤ k ∧ ns.length ≤ 3780
theorem Dr.ne {H : Hp} {d n : Addr} (h : Dr H d n) : H d ≠ none := by
  obtain ⟨_, _, h, _⟩ := h
  rw [h]
  exact fun z => nomatch z
theorem Dr.new {H : Hp} {d n p : Addr} (h : Dr H d n) (hp : H p = none) : p ≠ d := fun e => h.ne (e ▸ hp)
theorem Dr.newN {H : Hp} {d n p : Addr} (h : Dr H d n) (hp : H p = none) : p ≠ n := fun e => by
  obtain ⟨_, _, _, h2, _⟩ := h
  rw [← e, hp] at h2
  cases h2
theorem Dr.dn {H : Hp} {d n : Addr} (h : Dr H d n) : d ≠ n := by
  obtain ⟨ns, k, h1, h2, _⟩ := h
  exact ne_of h1 h2 (by
    intro e
    have e1 : [V.ref n, V.int k] = ns.map V.int := HO.lst.inj e
    cases ns with
    | nil => cases e1
    | cons x r => cases (List.cons.inj e1).1)
/-- changes elsewhere -/
theorem Dr.upd {H : Hp} {d n p : Addr} {o : HO} (h : Dr H d n) (hd : p ≠ d) (hn : p ≠ n) : Dr (upd H p o) d n := by
  obtain ⟨ns, k, h1, h2, h3⟩ := h
  exact ⟨ns, k, by rw [upd_ne hd.symm]; exact h1, by rw [upd_ne hn.symm]; exact h2, h3⟩
theorem Dr.upd0 {H : Hp} {d n p : Addr} {o : HO} (h : Dr H d n) (hp : H p = none) : Dr (L2.upd H p o) d n := h.upd (h.new hp) (h.newN hp)
theorem Dr.same {H H' : Hp} {d n : Addr} (h : Dr H d n) (s : Same H H') : Dr H' d n := by
  obtain ⟨ns, k, h1, h2, h3⟩ := h
  exact ⟨ns, k, s _ _ h1, s _ _ h2, h3⟩
/-- what is fresh behind was fresh ahead -/
theorem Keep.free {H H' : Hp} {d n p : Addr} (s : Keep d H H') (h : Dr H' d n) (hp : H' p = none) : H p = none := by
  cases e : H p with
  | none => rfl
  | some o =>
    by_cases hd : p = d
    · rw [hd] at hp
      exact absurd hp h.ne
    · rw [s p o e hd] at hp
      cases hp
theorem Dr.mk {H : Hp} {d n : Addr} {ns : List Int} (hn : H n = some (.lst (ns.map V.int))) (hr : Rg 0 1000000 ns) (hl : ns.length ≤ 3780) (hd : H d = none) : Dr (L2.upd H d (.lst [.ref n, .int 0])) d n :=
  ⟨ns, 0, upd_same, by rw [upd_ne (ne_of_none hn hd)]; exact hn, hr, Int.le_refl _, hl⟩
/-- what a def that draws gives: a value of which P, the draws moved on -/
abbrev RetD (d n : Addr) (P : V → Prop) (H : Hp) (Q : VK) : Prop := ∀ v H', P v → Dr H' d n → Keep d H H' → Q v H'
abbrev RetG (d n : Addr) (P : V → Hp → Prop) (H : Hp) (Q : VK) : Prop := ∀ v H', P v H' → Dr H' d n → Keep d H H' → Q v H'
abbrev IsI (lo hi : Int) : V → Prop := fun v => ∃ z : Int, v = .int z ∧ lo ≤ z ∧ z < hi

def sp_law_mixed (K : PySem.W.Frag) : Sp := fun vs H Q _ => ∃ i k : Int, vs = [.int i, .int k] ∧ ∀ r : Int, 0 ≤ r → r < 2147483647 → Q (.int r) H
theorem ok_law_mixed (T : Txt K mg) : FnOk P w K mg base CX0 1 T.a_law_mixed T.fd_law_mixed ["number", "k"] (sp_law_mixed K) := by
  refine T.F_law_mixed.ok sc_law_mixed (fun vs H Q E h => ?_) (fun cdv A outer s H vs Q E hr h => ?_)
  · obtain ⟨i, k, rfl, _⟩ := h
    rfl
  · obtain ⟨i, k, rfl, q⟩ := h
    refine ⟨_, (pss_cons (ps_set (i := 2) sc_law_mixed.nd rfl (.inl rfl) (pe_op op_mod (pe_op op_add (pe_op op_add (pe_op op_mul (pv 0) pe_int) (pe_op op_mul (pv 1) pe_int)) pe_int) pe_int))
      (pss_one (ps_ret (pe_op op_mod (pe_op op_add (pe_op op_mul (pv 2) (pe_op op_add (pe_op op_fdiv (pv 2) pe_int) pe_int)) (pv 1)) pe_int)))), ?_⟩
    walk_at "start"
    walk_at "x"
    exact q _ (Int.emod_nonneg _ (by decide)) (Int.emod_lt_of_pos _ (by decide))


def sp_law_numbers (K : PySem.W.Frag) : Sp := fun vs H Q _ => ∃ (a : Addr) (ns : List Int), vs = [.ref a] ∧ SqL K H a (ns.map V.int) ∧ ns.length ≤ 63 ∧
  ∀ (p : Addr) (ms : List Int) (H' : Hp), H p = none → Same H H' → H' p = some (.lst (ms.map V.int)) → Rg 0 1000000 ms → ms.length ≤ 3780 → Q (.ref p) H'
/-- the numbers so far -/
def NumI (H : Hp) (p : Addr) (n : Nat) (H' : Hp) : Prop := ∃ ms : List Int, Same H H' ∧ H' p = some (.lst (ms.map V.int)) ∧ Rg 0 1000000 ms ∧ ms.length ≤ n
theorem NumI.app {H H' : Hp} {p : Addr} {n : Nat} (h : NumI H p n H') (hp : H p = none) (hn : n ≤ 100000) {R : VK} {z : Int} (h1 : 0 ≤ z) (h2 : z < 1000000) (q : ∀ H2, NumI H p (n + 1) H2 → R .non H2) : rAppend (.ref p) [.int z] H' R := by
  obtain ⟨ms, s, e, r, l⟩ := h
  refine x_app e (by rw [List.length_map]; omega) (q _ ⟨ms ++ [z], sput s hp, ?_, r.snoc h1 h2, ?_⟩)
  · rw [upd_same, List.map_append]; rfl
  · rw [List.length_append]; exact Nat.add_le_add_right l 1
theorem NumI.ty {K : PySem.W.Frag} {H H' : Hp} {p : Addr} {n : Nat} (h : NumI H p n H') {R : Prop} (q : R) : tyV K "list" (.ref p) H' ∧ R := by
  obtain ⟨ms, s, e, r, l⟩ := h
  exact x_tyL e q
theorem NumI.mono {H H' : Hp} {p : Addr} {n m : Nat} (h : NumI H p n H') (l : n ≤ m) : NumI H p m H' := by
  obtain ⟨ms, s, e, r, k⟩ := h
  exact ⟨ms, s, e, r, Nat.le_trans k l⟩
theorem ok_law_numbers (T : Txt K mg) : FnOk P w K mg base CX0 2 T.a_law_numbers T.fd_law_numbers ["script"] (sp_law_numbers K) := by
  refine T.F_law_numbers.ok sc_law_numbers (fun vs H Q E h => ?_) (fun cdv A outer s H vs Q E hr h => ?_)
  · obtain ⟨a, ns, rfl, _⟩ := h
    rfl
  · obtain ⟨a, ns, rfl, hS, hl, q⟩ := h
    refine ⟨_, (pss_cons (ps_set (i := 1) sc_law_numbers.nd rfl (.inl rfl) (pe_lst pa_nil))
      (pss_cons (ps_for PassesOwn.never rfl (pi_list (pv 0)) (pg_name (i := 2) sc_law_numbers.nd rfl (Or.inl rfl))
      (pss_one (ps_if (pt_cmpR op_ge (pv 2) (pe_op op_pow pe_int pe_int) (nomark _))
      (pss_cons (ps_set (i := 3) sc_law_numbers.nd rfl (.inl rfl) (pv 2))
      (pss_one (ps_for PassesOwn.never rfl (pi_range1 (by rfl) T.m_range (pa_cons pe_int pa_nil)) (pg_name (i := 4) sc_law_numbers.nd rfl (Or.inl rfl))
      (pss_one (ps_if (pt_cmpR op_gt (pv 3) pe_int (nomark _))
      (pss_cons (ps_expr (pe_bm PySem.F.plainAttrs_list PySem.F.slot_list_append PySem.F.type_list_append mt_append (pv 1) (pa_cons (pe_op op_mod (pv 3) pe_int) pa_nil)))
      (pss_one (ps_set (i := 3) sc_law_numbers.nd rfl (.inl rfl) (pe_op op_fdiv (pv 3) pe_int))))
      pss_nil)))))
      (pss_cons (ps_expr (pe_bm PySem.F.plainAttrs_list PySem.F.slot_list_append PySem.F.type_list_append mt_append (pv 1) (pa_cons (pe_op op_mod (pv 2) pe_int) pa_nil)))
      (pss_one (ps_for PassesOwn.never rfl (pi_range1 (by rfl) T.m_range (pa_cons pe_int pa_nil)) (pg_name (i := 4) sc_law_numbers.nd rfl (Or.inl rfl))
      (pss_one (ps_expr (pe_bm PySem.F.plainAttrs_list PySem.F.slot_list_append PySem.F.type_list_append mt_append (pv 1) (pa_cons (pe_op op_mod (pe_call (ok_law_mixed T) hr (by rfl) T.g_law_mixed T.F_law_mixed.kp T.b_law_mixed .nil pass0 (pa_cons (pe_call (ok_law_mixed T) hr (by rfl) T.g_law_mixed T.F_law_mixed.kp T.b_law_mixed .nil pass0 (pa_cons (pe_op op_mod (pv 2) pe_int) (pa_cons (pv 4) pa_nil))) (pa_cons (pe_op op_add (pv 4) pe_int) pa_nil))) pe_int) pa_nil))))))))))
      (pss_one (ps_ret (pv 1))))), ?_⟩
    walk_at "start"
    walk_at "x"
    refine ⟨Nat.zero_le _, fun p hp => ?_⟩
    walk_at "x"
    refine x_forL (p := a) (ns.map V.int) (fun i σ' H' => ∃ v2 v3 v4, σ' = [some (.ref a), some (.ref p), v2, v3, v4] ∧ NumI H p (60 * i) H') (fun R r => ⟨_, rfl, r⟩) ((same_upd hp).seq hS) ?_ ?_ ?_ ?_
    · exact ⟨none, none, none, rfl, [], same_upd hp, upd_same, .nil, Nat.le_refl _⟩
    · rintro i σ' H' hi ⟨v2, v3, v4, rfl, ms, s, _⟩
      exact s.seq hS
    · rintro i x σ' H' hx ⟨v2, v3, v4, rfl, hN⟩
      obtain ⟨z, hz, rfl⟩ := map_get hx
      have hi : i < 63 := by
        have := (List.getElem?_eq_some_iff.mp hz).1
        omega
      walk_at "x"
      refine x_ite (fun hc => ?_) (fun hc => ?_)
      · walk_at "x"
        refine x_forR1 60 (fun j σ' H' => ∃ r v4, σ' = [some (.ref a), some (.ref p), some (.int z), some (.int r), v4] ∧ NumI H p (60 * i + j) H') (fun R r => r) (by decide) (by decide) ⟨z, v4, rfl, hN⟩ ?_ ?_
        · rintro j σ' H2 hj ⟨r, v4, rfl, hN⟩
          walk_at "x"
          refine x_ite (fun hc => ?_) (fun hc => ?_)
          · walk_at "x"
            refine hN.ty ?_
            walk_at "x"
            refine hN.app hp (by omega) (Int.emod_nonneg _ (by decide)) (Int.emod_lt_of_pos _ (by decide)) fun H3 hN3 => ?_
            walk_at "x"
            exact ⟨_, _, rfl, hN3⟩
          · walk_at "x"
            exact ⟨r, _, rfl, hN.mono (by omega)⟩
        · rintro σ' H2 ⟨r, v4, rfl, hN⟩
          exact ⟨_, _, _, rfl, hN.mono (by show 60 * i + (60 : Int).toNat ≤ 60 * (i + 1); omega)⟩
      · walk_at "x"
        refine hN.ty ?_
        walk_at "x"
        refine hN.app hp (by omega) (Int.emod_nonneg _ (by decide)) (Int.emod_lt_of_pos _ (by decide)) fun H3 hN3 => ?_
        walk_at "x"
        refine x_forR1 5 (fun j σ' H' => ∃ v4, σ' = [some (.ref a), some (.ref p), some (.int z), v3, v4] ∧ NumI H p (60 * i + 1 + j) H') (fun R r => r) (by decide) (by decide) ⟨v4, rfl, hN3⟩ ?_ ?_
        · rintro j σ' H2 hj ⟨v4, rfl, hN⟩
          walk_at "x"
          refine hN.ty ?_
          walk_at "x"
          refine ⟨_, _, rfl, fun r h0 h1 => ?_⟩
          walk_at "x"
          refine ⟨_, _, rfl, fun r h0 h1 => ?_⟩
          walk_at "x"
          refine hN.app hp (by omega) (Int.emod_nonneg _ (by decide)) (Int.emod_lt_of_pos _ (by decide)) fun H3 hN3 => ?_
          walk_at "x"
          exact ⟨_, rfl, hN3⟩
        · rintro σ' H2 ⟨v4, rfl, hN⟩
          exact ⟨_, _, _, rfl, hN.mono (by show 60 * i + 1 + (5 : Int).toNat ≤ 60 * (i + 1); omega)⟩
    · rintro σ' H' ⟨v2, v3, v4, rfl, ms, s, e, r, l⟩
      walk_at "x"
      exact q p ms H' hp s e r (by rw [List.length_map] at l; omega)


def sp_law_draw (K : PySem.W.Frag) : Sp := fun vs H Q _ => ∃ (d n : Addr), vs = [.ref d] ∧ Dr H d n ∧ RetD d n (IsI 0 1000000) H Q
theorem ok_law_draw (T : Txt K mg) : FnOk P w K mg base CX0 2 T.a_law_draw T.fd_law_draw ["draws"] (sp_law_draw K) := by
  refine T.F_law_draw.ok sc_law_draw (fun vs H Q E h => ?_) (fun cdv A outer s H vs Q E hr h => ?_)
  · obtain ⟨d, n, rfl, _⟩ := h
    rfl
  · obtain ⟨d, n, rfl, hD, q⟩ := h
    have hn := hD.dn
    obtain ⟨ns, k, h1, h2, h3, h4, h5⟩ := hD
    have hD : Dr (upd H d (.lst [.ref n, .int (k + 1)])) d n := ⟨ns, k + 1, upd_same, by rw [upd_ne hn.symm]; exact h2, h3, by omega, h5⟩
    refine ⟨_, (pss_cons (ps_set (i := 1) sc_law_draw.nd rfl (.inl rfl) (pe_ix (r := rIxL K) ix_list (pv 0) pe_int (fun _ _ => rfl)))
      (pss_cons (ps_asg (pe_op op_add (pv 1) pe_int) (pg_sub (pv 0) pe_int set_list))
      (pss_cons (ps_if (pt_cmpR op_lt (pv 1) (pe_callB (id := "len") (r := rLen K) cr_len (by rfl) T.m_len PySem.boot_len (pa_cons (pe_ix (r := rIxL K) ix_list (pv 0) pe_int (fun _ _ => rfl)) pa_nil)) (nomark _))
      (pss_one (ps_ret (pe_ix (r := rIxL K) ix_list (pe_ix (r := rIxL K) ix_list (pv 0) pe_int (fun _ _ => rfl)) (pv 1) (fun _ _ => rfl))))
      pss_nil)
      (pss_cons (ps_set (i := 2) sc_law_draw.nd rfl (.inl rfl) (pe_op op_add pe_int (pv 1)))
      (pss_cons (ps_if (pt_cmpR op_gt (pe_callB (id := "len") (r := rLen K) cr_len (by rfl) T.m_len PySem.boot_len (pa_cons (pe_ix (r := rIxL K) ix_list (pv 0) pe_int (fun _ _ => rfl)) pa_nil)) pe_int (nomark _))
      (pss_one (ps_set (i := 2) sc_law_draw.nd rfl (.inl rfl) (pe_op op_add (pv 2) (pe_op op_mul pe_int (pe_ix (r := rIxL K) ix_list (pe_ix (r := rIxL K) ix_list (pv 0) pe_int (fun _ _ => rfl)) pe_int (fun _ _ => rfl))))))
      pss_nil)
      (pss_one (ps_ret (pe_op op_mod (pe_call (ok_law_mixed T) hr (by rfl) T.g_law_mixed T.F_law_mixed.kp T.b_law_mixed .nil pass0 (pa_cons (pe_call (ok_law_mixed T) hr (by rfl) T.g_law_mixed T.F_law_mixed.kp T.b_law_mixed .nil pass0 (pa_cons (pv 2) (pa_cons (pv 1) pa_nil))) (pa_cons pe_int pa_nil))) pe_int)))))))), ?_⟩
    walk_at "start"
    walk_at "x"
    refine x_ixL (sq_of h1) (show _ = some (V.int k) from rfl) ?_
    walk_at "x"
    refine x_subL (k := 1) h1 rfl ?_
    walk_at "x"
    have hd : (upd H d (HO.lst [.ref n, .int (k + 1)])) d = some (.lst [.ref n, .int (k + 1)]) := upd_same
    have hnn : (upd H d (HO.lst [.ref n, .int (k + 1)])) n = some (.lst (ns.map V.int)) := by rw [upd_ne hn.symm]; exact h2
    refine x_ixL (sq_of hd) (show _ = some (V.ref n) from rfl) ?_
    walk_at "x"
    refine x_len (sq_of hnn) ?_
    walk_at "x"
    rw [List.length_map]
    refine x_ite (fun hc => ?_) (fun hc => ?_)
    · walk_at "x"
      refine x_ixL (sq_of hd) (show _ = some (V.ref n) from rfl) ?_
      walk_at "x"
      obtain ⟨j, rfl⟩ : ∃ j : Nat, k = (j : Int) := ⟨k.toNat, by omega⟩
      have hj : j < ns.length := by omega
      refine x_ixL (v := .int ns[j]) (sq_of hnn) (atI_nat (by rw [List.getElem?_map, List.getElem?_eq_getElem hj]; rfl)) ?_
      exact q _ _ ⟨_, rfl, h3 _ (List.getElem_mem hj)⟩ hD keep_upd
    · walk_at "x"
      refine x_ixL (sq_of hd) (show _ = some (V.ref n) from rfl) ?_
      walk_at "x"
      refine x_len (sq_of hnn) ?_
      walk_at "x"
      rw [List.length_map]
      refine x_ite (fun hc => ?_) (fun hc => ?_)
      · walk_at "x"
        refine x_ixL (sq_of hd) (show _ = some (V.ref n) from rfl) ?_
        walk_at "x"
        have hj : 0 < ns.length := by omega
        refine x_ixL (v := .int ns[0]) (sq_of hnn) (atI_nat (j := 0) (by rw [List.getElem?_map, List.getElem?_eq_getElem hj]; rfl)) ?_
        walk_at "x"
        refine ⟨_, _, rfl, fun r h0 h1 => ?_⟩
        walk_at "x"
        refine ⟨_, _, rfl, fun r h0 h1 => ?_⟩
        walk_at "x"
        exact q _ _ ⟨_, rfl, Int.emod_nonneg _ (by decide), Int.emod_lt_of_pos _ (by decide)⟩ hD keep_upd
      · walk_at "x"
        refine ⟨_, _, rfl, fun r h0 h1 => ?_⟩
        walk_at "x"
        refine ⟨_, _, rfl, fun r h0 h1 => ?_⟩
        walk_at "x"
        exact q _ _ ⟨_, rfl, Int.emod_nonneg _ (by decide), Int.emod_lt_of_pos _ (by decide)⟩ hD keep_upd






/-- a value of any kind that the laws put in -/
inductive Odd (H : Hp) : V → Prop
  | int (i : Int) : Odd H (.int i)
  | bl (b : Bool) : Odd H (.bl b)
  | non : Odd H .non
  | str (x : Str) : Odd H (.str x)
  | tup (a : Addr) (xs : List V) (h : H a = some (.tup xs)) : Odd H (.ref a)
  | lst (a : Addr) (xs : List V) (h : H a = some (.lst xs)) : Odd H (.ref a)
theorem Odd.same {H H' : Hp} {v : V} (h : Odd H v) (s : Same H H') : Odd H' v := by
  cases h with
  | int i => exact .int i
  | bl b => exact .bl b
  | non => exact .non
  | str x => exact .str x
  | tup a xs h => exact .tup a xs (s _ _ h)
  | lst a xs h => exact .lst a xs (s _ _ h)
def isB (v : V) (b : Int) : Bool := match v with
  | .int i => decide (0 ≤ i) && decide (i < b)
  | _ => false
theorem isB_int {i b : Int} (h0 : 0 ≤ i) (h1 : i < b) : isB (.int i) b = true := by
  show (decide (0 ≤ i) && decide (i < b)) = true
  rw [decide_eq_true h0, decide_eq_true h1]; rfl

def sp_is_below (K : PySem.W.Frag) : Sp := fun vs H Q _ => ∃ (v : V) (b : Int), vs = [v, .int b] ∧ Odd H v ∧ Q (.bl (isB v b)) H
theorem ok_is_below (T : Txt K mg) : FnOk P w K mg base CX0 1 T.a_is_below T.fd_is_below ["value", "bound"] (sp_is_below K) := by
  refine T.F_is_below.ok sc_is_below (fun vs H Q E h => ?_) (fun cdv A outer s H vs Q E hr h => ?_)
  · obtain ⟨v, b, rfl, _⟩ := h
    rfl
  · obtain ⟨v, b, rfl, hv, q⟩ := h
    refine ⟨_, (pss_one (ps_ret (pe_and (pe_callB (id := "isinstance") (r := rIsi K) call_isi (by rfl) T.m_isinstance (by decide +kernel) (pa_cons (pv 0) (pa_cons (pe_bltn (v := .ty "int") (by rfl) T.m_int (by decide +kernel) rfl) pa_nil))) (pe_and (pe_not (pe_callB (id := "isinstance") (r := rIsi K) call_isi (by rfl) T.m_isinstance (by decide +kernel) (pa_cons (pv 0) (pa_cons (pe_bltn (v := .ty "bool") (by rfl) T.m_bool (by decide +kernel) rfl) pa_nil)))) (pe_one (pe_chain op_le op_lt pe_int (pv 0) (pv 1))))))), ?_⟩
    walk_at "start"
    cases hv with
    | int i =>
      walk_at "x"
      walk_at "is"
      walk_at "t"
      walk_at "is"
      walk_at "t"
      refine x_ite (fun h0 => ?_) (fun h0 => ?_)
      · walk_at "x"
        have e : isB (.int i) b = decide (i < b) := by show (decide (0 ≤ i) && decide (i < b)) = _; rw [decide_eq_true h0]; rfl
        rw [← e]; exact q
      · have e : isB (.int i) b = false := by show (decide (0 ≤ i) && decide (i < b)) = _; rw [decide_eq_false h0]; rfl
        rw [← e]; exact q
    | bl x =>
      walk_at "x"
      walk_at "is"
      walk_at "t"
      walk_at "is"
      walk_at "f"
      exact q
    | non =>
      walk_at "x"
      walk_at "is"
      walk_at "f"
      exact q
    | str x =>
      walk_at "x"
      walk_at "is"
      walk_at "f"
      exact q
    | tup a xs h =>
      walk_at "x"
      walk_at "is"
      walk_at "f"
      exact q
    | lst a xs h =>
      walk_at "x"
      walk_at "is"
      walk_at "f"
      exact q


open Br
theorem DAt.odd {d : Addr} {H : Hp} {v : V} {e : PyData} (h : DAt d H v e) : Odd H v := by
  cases h with
  | non => exact .non
  | bl b => exact .bl b
  | int i => exact .int i
  | str x => exact .str x
  | lst hd h hs => exact .lst _ _ h
  | tup h hs => exact .tup _ _ h
theorem DAt.isB {d : Addr} {H : Hp} {v : V} {e : PyData} (h : DAt d H v e) {b : Int} : isB v b = isBD b e := by
  cases h <;> rfl
theorem range_allD {ds : List PyData} {f : PyData → Bool} : ((List.range ds.length).map fun i => f (ds.getD i .none)).all id = ds.all f := by
  have e : (List.range ds.length).map (fun i => f (ds.getD i .none)) = ds.map f := by
    apply List.ext_getElem?
    intro i
    rw [List.getElem?_map, List.getElem?_map]
    by_cases h : i < ds.length
    · rw [List.getElem?_range h, List.getElem?_eq_getElem h]
      show some (f (ds.getD i .none)) = some (f ds[i])
      rw [List.getD_eq_getElem?_getD, List.getElem?_eq_getElem h]; rfl
    · rw [List.getElem?_eq_none (by simpa using h), List.getElem?_eq_none (by simpa using h)]
      rfl
  rw [e, List.all_map]
  rfl
theorem getDD {ds : List PyData} {i : Nat} {e : PyData} (h : ds[i]? = some e) : ds.getD i .none = e := by rw [List.getD_eq_getElem?_getD, h]; rfl


def sp_is_bit (K : PySem.W.Frag) : Sp := fun vs H Q _ => ∃ (d : Addr) (v : V) (e : PyData), vs = [v] ∧ DAt d H v e ∧ Q (.bl (isBD 120 e)) H
theorem ok_is_bit (T : Txt K mg) : FnOk P w K mg base CX0 2 T.a_is_bit T.fd_is_bit ["value"] (sp_is_bit K) := by
  refine T.F_is_bit.ok sc_is_bit (fun vs H Q E h => ?_) (fun cdv A outer s H vs Q E hr h => ?_)
  · obtain ⟨d, v, e, rfl, _⟩ := h
    rfl
  · obtain ⟨d, v, e, rfl, hv, q⟩ := h
    refine ⟨_, (pss_one (ps_ret (pe_call (ok_is_below T) hr (by rfl) T.g_is_below T.F_is_below.kp T.b_is_below .nil pass0 (pa_cons (pv 0) (pa_cons (pe_glob (v := .int 120) (by rfl) T.c_MOST_BITS ⟨_, rfl⟩) pa_nil))))), ?_⟩
    walk_at "start"
    walk_at "x"
    refine ⟨v, _, rfl, hv.odd, ?_⟩
    rw [hv.isB]
    exact q


def sp_are_rising (K : PySem.W.Frag) : Sp := fun vs H Q _ => ∃ (d : Addr) (v : V) (e : PyData), vs = [v] ∧ DAt d H v e ∧ Q (.bl (risD e)) H
theorem ok_are_rising (T : Txt K mg) : FnOk P w K mg base CX0 3 T.a_are_rising T.fd_are_rising ["controls"] (sp_are_rising K) := by
  refine T.F_are_rising.ok sc_are_rising (fun vs H Q E h => ?_) (fun cdv A outer s H vs Q E hr h => ?_)
  · obtain ⟨d, v, e, rfl, _⟩ := h
    rfl
  · obtain ⟨d, v, e, rfl, hv, q⟩ := h
    refine ⟨_, (pss_cons (ps_if (pt_not (pt_val (pe_callB (id := "isinstance") (r := rIsi K) call_isi (by rfl) T.m_isinstance (by decide +kernel) (pa_cons (pv 0) (pa_cons (pe_bltn (v := .ty "tuple") (by rfl) T.m_tuple (by decide +kernel) rfl) pa_nil)))))
      (pss_one (ps_ret pe_bl))
      pss_nil)
      (pss_cons (ps_set (i := 1) sc_are_rising.nd rfl (.inl rfl) (pe_un un_neg pe_int))
      (pss_cons (ps_for PassesOwn.never rfl (pi_tup (pv 0)) (pg_name (i := 2) sc_are_rising.nd rfl (Or.inl rfl))
      (pss_cons (ps_if (PW.pt (pw_or (pt_not (pt_val (pe_call (ok_is_bit T) hr (by rfl) T.g_is_bit T.F_is_bit.kp T.b_is_bit .nil pass0 (pa_cons (pv 2) pa_nil)))) (pw_or1 (pt_cmpR op_le (pv 2) (pv 1) (nomark _)))))
      (pss_one (ps_ret pe_bl))
      pss_nil)
      (pss_one (ps_set (i := 1) sc_are_rising.nd rfl (.inl rfl) (pv 2)))))
      (pss_one (ps_ret pe_bl))))), ?_⟩
    walk_at "start"
    cases hv with
    | tup h hs =>
      rename_i a xs es
      have hlen := hs.len
      walk_at "x"
      walk_at "is"
      walk_at "f"
      refine x_forI (J := Itt K a) (n := xs.length) (G := fun H => SqT K H a xs) (fun R r => ⟨_, rfl, a, rfl, ⟨_, st_of h⟩, r⟩) walk_tup (fun k σ' H' => H = H' ∧ ∃ (l : Int) (v2 : Option V), σ' = [some (.ref a), some (.int l), v2] ∧ risF l (es.drop k) = risF (-1) es)
        ⟨rfl, -1, _, rfl, rfl⟩ (fun k σ' H' _ z => by rw [← z.1]; exact st_of h) ?_ ?_
      · rintro k x σ' H' H2 hk ⟨rfl, l, v2, rfl, hr⟩ ⟨rfl, hx⟩
        obtain ⟨f, hf, hxf⟩ := hs.get hx
        have ed : es.drop k = f :: es.drop (k + 1) := by
          obtain ⟨hlt, e⟩ := List.getElem?_eq_some_iff.mp hf
          rw [List.drop_eq_getElem_cons hlt, e]
        rw [ed] at hr
        walk_at "x"
        refine ⟨d, x, f, rfl, hxf, ?_⟩
        walk_at "x"
        refine x_iteBN (fun hb => ?_) (fun hb => ?_)
        · walk_at "x"
          have e : risF (-1) es = false := by
            rw [← hr]
            cases f with
            | int i =>
              show ((decide (0 ≤ i) && decide (i < 120)) && _) = false
              rw [show (decide (0 ≤ i) && decide (i < 120)) = false from hb]
              rfl
            | _ => rfl
          rw [show risD (.tuple es) = risF (-1) es from rfl, e] at q
          exact q
        · obtain ⟨i, rfl, i0, i1⟩ := isBD_iff.mp hb
          cases hxf with
          | int i =>
            have hr : ((decide (0 ≤ i) && decide (i < 120)) && (decide (l < i) && risF i (es.drop (k + 1)))) = risF (-1) es := hr
            rw [decide_eq_true i0, decide_eq_true i1, Bool.and_true, Bool.true_and] at hr
            walk_at "x"
            refine x_ite (fun hc => ?_) (fun hc => ?_)
            · walk_at "x"
              rw [decide_eq_false (by omega), Bool.false_and] at hr
              rw [show risD (.tuple es) = risF (-1) es from rfl, ← hr] at q
              exact q
            · walk_at "x"
              rw [decide_eq_true (by omega), Bool.true_and] at hr
              exact ⟨rfl, i, _, rfl, hr⟩
      · rintro σ' H' ⟨rfl, l, v2, rfl, hr⟩
        walk_at "x"
        rw [hlen, List.drop_length] at hr
        rw [show risD (.tuple es) = risF (-1) es from rfl, ← hr] at q
        exact q
    | int i =>
      walk_at "x"
      walk_at "is"
      walk_at "t"
      exact q
    | bl b =>
      walk_at "x"
      walk_at "is"
      walk_at "t"
      exact q
    | non =>
      walk_at "x"
      walk_at "is"
      walk_at "t"
      exact q
    | str z =>
      walk_at "x"
      walk_at "is"
      walk_at "t"
      exact q
    | lst hd h hs =>
      walk_at "x"
      walk_at "is"
      walk_at "t"
      exact q


theorem risF_flat : ∀ {es : List PyData} {l : Int}, risF l es = true → ∀ e, e ∈ es → ∃ i : Int, e = .int i
  | [], _, _, e, h => by simp at h
  | .int i :: es, l, hr, e, h => by
    rcases List.mem_cons.mp h with rfl | h
    · exact ⟨i, rfl⟩
    · have hr : ((decide (0 ≤ i) && decide (i < 120)) && (decide (l < i) && risF i es)) = true := hr
      rw [Bool.and_eq_true, Bool.and_eq_true (decide (l < i))] at hr
      exact risF_flat hr.2.2 e h
  | .none :: _, _, hr, _, _ => by cases hr
  | .bool _ :: _, _, hr, _, _ => by cases hr
  | .str _ :: _, _, hr, _, _ => by cases hr
  | .list _ :: _, _, hr, _, _ => by cases hr
  | .tuple _ :: _, _, hr, _, _ => by cases hr
  | .dict _ :: _, _, hr, _, _ => by cases hr
theorem flat_in {d : Addr} {H : Hp} {t : Int} : ∀ {xs : List V} {es : List PyData}, DAts d H xs es → (∀ e, e ∈ es → ∃ i : Int, e = .int i) → xs.all flatV = true ∧ inV (.int t) xs = hasD (.int t) es
  | [], _, h, _ => by cases h; exact ⟨rfl, rfl⟩
  | v :: xs, _, h, hf => by
    cases h with
    | cons h hs =>
      rename_i e es
      obtain ⟨i, rfl⟩ := hf e List.mem_cons_self
      cases h
      obtain ⟨h1, h2⟩ := flat_in (t := t) hs fun e he => hf e (List.mem_cons_of_mem _ he)
      refine ⟨by show (true && xs.all flatV) = true; rw [h1]; rfl, ?_⟩
      show (eqV (.int i) (.int t) || inV (.int t) xs) = (decide (i = t) || hasD (.int t) es)
      rw [h2]
      congr 1
def sp_is_gate (K : PySem.W.Frag) : Sp := fun vs H Q _ => ∃ (d : Addr) (v : V) (e : PyData), vs = [v] ∧ DAt d H v e ∧ Q (.bl (gateD e)) H
theorem isG_no {t c : PyData} (h : ∀ es, c = .tuple es → risF (-1) es = false) : gateD (.tuple [t, c]) = false := by
  cases c with
  | tuple es =>
    show (isBD 120 t && (risF (-1) es && _)) = false
    rw [h es rfl, Bool.false_and, Bool.and_false]
  | _ => rfl
theorem isG_no1 {t c : PyData} (h : isBD 120 t = false) : gateD (.tuple [t, c]) = false := by
  cases c with
  | tuple es =>
    show (isBD 120 t && (risF (-1) es && _)) = false
    rw [h, Bool.false_and]
  | _ => rfl
theorem ok_is_gate (T : Txt K mg) : FnOk P w K mg base CX0 4 T.a_is_gate T.fd_is_gate ["gate"] (sp_is_gate K) := by
  refine T.F_is_gate.ok sc_is_gate (fun vs H Q E h => ?_) (fun cdv A outer s H vs Q E hr h => ?_)
  · obtain ⟨d, v, e, rfl, _⟩ := h
    rfl
  · obtain ⟨d, v, e, rfl, hv, q⟩ := h
    refine ⟨_, (pss_cons (ps_if (PW.pt (pw_or (pt_not (pt_val (pe_callB (id := "isinstance") (r := rIsi K) call_isi (by rfl) T.m_isinstance (by decide +kernel) (pa_cons (pv 0) (pa_cons (pe_bltn (v := .ty "tuple") (by rfl) T.m_tuple (by decide +kernel) rfl) pa_nil))))) (pw_or1 (pt_cmpR op_ne (pe_callB (id := "len") (r := rLen K) cr_len (by rfl) T.m_len PySem.boot_len (pa_cons (pv 0) pa_nil)) pe_int (nomark _)))))
      (pss_one (ps_ret pe_bl))
      pss_nil)
      (pss_cons (ps_asg (pv 0) (pg_tup rfl (pgs_cons (pg_name (i := 1) sc_is_gate.nd rfl (Or.inl rfl)) (pgs_cons (pg_name (i := 2) sc_is_gate.nd rfl (Or.inl rfl)) pgs_nil))))
      (pss_one (ps_ret (pe_and (pe_call (ok_is_bit T) (hr.mono (by decide)) (by rfl) T.g_is_bit T.F_is_bit.kp T.b_is_bit .nil pass0 (pa_cons (pv 1) pa_nil)) (pe_and (pe_call (ok_are_rising T) hr (by rfl) T.g_are_rising T.F_are_rising.kp T.b_are_rising .nil pass0 (pa_cons (pv 2) pa_nil)) (pe_one (pe_cmpR (r := rIn K true) op_notIn_seq (pv 1) (pv 2) (by with_unfolding_all rfl))))))))), ?_⟩
    walk_at "start"
    cases hv with
    | tup h hs =>
      rename_i a xs es
      have hlen := hs.len
      walk_at "x"
      walk_at "is"
      walk_at "f"
      refine x_lenT (st_of h) ?_
      walk_at "x"
      refine x_iteN (fun hc => ?_) (fun hc => ?_)
      · walk_at "x"
        have e : gateD (.tuple es) = false := by
          match es, hlen with
          | [], _ => rfl
          | [_], _ => rfl
          | [_, _], hl => exfalso; apply hc; rw [hl]; rfl
          | _ :: b :: _ :: _, _ => cases b <;> rfl
        rw [e] at q
        exact q
      · obtain ⟨x, y, rfl⟩ : ∃ x y, xs = [x, y] := by
          match xs, hc with
          | [x, y], _ => exact ⟨x, y, rfl⟩
          | [], hc => simp at hc
          | [_], hc => simp at hc
          | _ :: _ :: _ :: _, hc => simp at hc; omega
        cases hs with
        | cons hx hs =>
          cases hs with
          | cons hy hs =>
            cases hs
            rename_i ex ey
            walk_at "x"
            refine x_gTup2 (st_of h) ?_
            walk_at "x"
            refine ⟨d, x, ex, rfl, hx, ?_⟩
            refine x_blP ?_
            refine x_iteB (fun hb => ?_) (fun hb => ?_)
            · walk_at "x"
              refine ⟨d, y, ey, rfl, hy, ?_⟩
              refine x_blP ?_
              obtain ⟨t, rfl, t0, t1⟩ := isBD_iff.mp hb
              cases hx
              refine x_iteB (fun hr => ?_) (fun hr => ?_)
              · cases hy with
                | tup h2 hs2 =>
                  rename_i c cs fs
                  have hr : risF (-1) fs = true := hr
                  obtain ⟨f1, f2⟩ := flat_in (t := t) hs2 (risF_flat hr)
                  walk_at "x"
                  refine ⟨c, cs, rfl, .inr (st_of h2), rfl, f1, ?_⟩
                  rw [if_pos rfl, f2]
                  have e : gateD (.tuple [.int t, .tuple fs]) = !hasD (.int t) fs := by
                    show (isBD 120 (.int t) && (risF (-1) fs && _)) = _
                    rw [hb, hr, Bool.true_and, Bool.true_and]
                  rw [e] at q
                  exact q
                | _ => cases hr
              · rw [isG_no (fun es e => by rw [e] at hr; exact hr)] at q
                exact q
            · rw [isG_no1 hb] at q
              exact q
    | int i =>
      walk_at "x"
      walk_at "is"
      walk_at "t"
      exact q
    | bl b =>
      walk_at "x"
      walk_at "is"
      walk_at "t"
      exact q
    | non =>
      walk_at "x"
      walk_at "is"
      walk_at "t"
      exact q
    | str z =>
      walk_at "x"
      walk_at "is"
      walk_at "t"
      exact q
    | lst hd h hs =>
      walk_at "x"
      walk_at "is"
      walk_at "t"
      exact q



end
end Br
namespace Br
open PySem PySem.Spec PyProof.Rows L2
local macro_rules | `(tactic| walk_at "x1") => `(tactic| (with_reducible first
  | refine Br.x_seq ?_ | refine Br.x_set ?_ | refine Br.x_asg ?_ | refine Br.x_next ?_ | refine Br.x_ret ?_ | refine Br.x_retN ?_ | refine Br.x_drop ?_ | refine Br.x_if ?_ | refine Br.x_brk ?_ | refine Br.x_cont ?_
  | refine Br.x_c ?_ | refine Br.x_op ?_ | refine Br.x_un ?_ | refine Br.x_I0 ?_ | refine Br.x_U ?_ | refine Br.x_EqI ?_ | refine Br.x_NeI ?_ | refine Br.x_EqB ?_ | refine Br.x_iN ?_ | refine Br.x_int1 ?_ | refine Br.x_min2 ?_ | refine Br.x_max2 ?_ | refine Br.x_nN ?_ | refine Br.x_ifE ?_
  | refine Br.x_test (b := ()) ?_ | refine Br.x_tB ?_ | refine Br.x_bl ?_ | refine Br.x_and ?_ | refine Br.x_or ?_ | refine Br.x_not ?_ | refine Br.x_andV ?_ | refine Br.x_orV ?_ | refine Br.x_notV ?_ | refine Br.x_blP ?_
  | refine Br.x_nil ?_ | refine Br.x_cons ?_ | refine Br.x_call ?_ | refine Br.x_CB ?_ | refine Br.x_BM ?_ | refine Br.x_tup ?_ | refine Br.x_lst ?_ | refine Br.x_chain ?_ | refine Br.x_par ?_ | refine Br.x_gSub ?_ | refine Br.x_gName ?_ | refine Br.x_fld ?_ | refine Br.x_fldS ?_ | refine Br.x_match ?_ | refine Br.x_else ?_ | refine Br.x_noCase ?_))
local macro_rules | `(tactic| walk_at "xv") => `(tactic| ((with_reducible refine' Br.x_var ?hvar ?_); (case hvar => rfl)))
local macro_rules | `(tactic| walk_at "xd") => `(tactic| (dsimp only [List.set_cons_zero, List.set_cons_succ, List.cons_append, List.nil_append, List.append_nil]))
local macro_rules | `(tactic| walk_at "xi") => `(tactic| ((with_reducible refine Br.x_I ?hside ?_); (case hside => first | exact Br.mul_r (by decide) (by decide) | exact Br.mul_l (by decide) (by decide) | exact Br.mul_l (by omega) (by omega) | exact Br.mul_r (by omega) (by omega) | (show (0 : Int) < _; first | decide | omega) | exact ⟨by decide, by decide⟩ | exact ⟨by omega, by omega⟩ | exact ⟨by decide, by decide, by decide⟩)))
local macro_rules | `(tactic| walk_at "x") => `(tactic| (repeat (first | walk_at "x1" | walk_at "xv" | walk_at "xi" | walk_at "xd")))
local macro_rules | `(tactic| walk_at "start") => `(tactic| (simp only [L2.start, List.map_cons, List.map_nil, List.length_cons, List.length_nil, Nat.reduceAdd, Nat.reduceSub, List.replicate, List.cons_append, List.nil_append, List.append_nil]))
local macro_rules | `(tactic| walk_at "isi") => `(tactic| first
  | refine Br.x_isi (b := true) (.base (.int _)) (by decide +kernel) ?_ | refine Br.x_isi (b := false) (.base (.int _)) (by decide +kernel) ?_
  | refine Br.x_isi (b := true) (.base (.bl _)) (by decide +kernel) ?_ | refine Br.x_isi (b := false) (.base (.bl _)) (by decide +kernel) ?_
  | refine Br.x_isi (b := false) (.base .non) (by decide +kernel) ?_
  | refine Br.x_isi (b := true) (.base (.str _)) (by decide +kernel) ?_ | refine Br.x_isi (b := false) (.base (.str _)) (by decide +kernel) ?_
  | refine Br.x_isi (b := true) (.base (.tup (by assumption))) (by decide +kernel) ?_ | refine Br.x_isi (b := false) (.base (.tup (by assumption))) (by decide +kernel) ?_
  | refine Br.x_isi (b := true) (.base (.lst (by assumption))) (by decide +kernel) ?_ | refine Br.x_isi (b := false) (.base (.lst (by assumption))) (by decide +kernel) ?_)
local macro_rules | `(tactic| walk_at "f") => `(tactic| (refine L2.iteF ?_; walk_at "x"))
local macro_rules | `(tactic| walk_at "t") => `(tactic| (refine L2.iteT ?_; walk_at "x"))
local macro_rules | `(tactic| walk_at "is") => `(tactic| (walk_at "isi"; walk_at "x"))
local macro_rules | `(tactic| walk_at "xb") => `(tactic| (simp only [Br.bindS, List.set_cons_zero, List.set_cons_succ]; walk_at "x"))

section
variable {P : Program} {w : World} {K : PySem.W.Frag} {mg : Str → Option Value} {base : Heap}



def sp_law_perform (K : PySem.W.Frag) : Sp := fun vs H Q _ => ∃ (ga ba : Addr) (as : List Addr) (gs : List Gt) (bs : List Bool), vs = [.ref ga, .ref ba] ∧ H ga = some (.lst (as.map V.ref)) ∧ GtsAt H as gs ∧ (∀ g, g ∈ gs → GtOk bs.length g) ∧ bs.length ≤ 1000 ∧ H ba = some (.lst (bls bs)) ∧
  ∀ l H', H l = none → Same H H' → H' l = some (.lst (bls (perfF gs bs))) → Q (.ref l) H'
theorem ok_law_perform (T : Txt K mg) : FnOk P w K mg base CX0 1 T.a_law_perform T.fd_law_perform ["gates", "bits"] (sp_law_perform K) := by
  refine T.F_law_perform.ok sc_law_perform (fun vs H Q E h => ?_) (fun cdv A outer s H vs Q E hr h => ?_)
  · obtain ⟨ga, ba, as, gs, bs, rfl, _⟩ := h
    rfl
  · obtain ⟨ga, ba, as, gs, bs, rfl, hga, hG, ok, hb, hba, q⟩ := h
    refine ⟨_, (pss_cons (ps_set (i := 2) sc_law_perform.nd rfl (.inr rfl) (pe_callTy (T := "list") (r := rListOf K) cr_list_of (by rfl) T.m_list (by decide +kernel) (pa_cons (pv 1) pa_nil)))
      (pss_cons (ps_for PassesOwn.never rfl (pi_list (pv 0)) (pg_tup rfl (pgs_cons (pg_name (i := 3) sc_law_perform.nd rfl (Or.inl rfl)) (pgs_cons (pg_name (i := 4) sc_law_perform.nd rfl (Or.inl rfl)) pgs_nil)))
      (pss_one (ps_if (pt_cmpR op_eq (pe_callB (id := "len") (r := rLen K) cr_len (by rfl) T.m_len PySem.boot_len (pa_cons (pe_lc (own := [("bit", 5)]) (g := gName 5) (tt := _) rfl sc_law_perform.nd (pi_tup (pv 4)) (blkOk_by (N := N_law_perform) (sc := defScope s_law_perform) (by decide +kernel)) (fun _ _ _ _ _ => (pg_name (i := 5) sc_law_perform.nd rfl (Or.inl rfl))) (fun _ _ _ _ _ => (pts_one (pt_not (pt_val (pe_ix (r := rIxL K) ix_list (pv 2) (pv 5) (fun _ _ => rfl)))))) (fun _ _ _ _ _ => (pv 5))) pa_nil)) pe_int (nomark _))
      (pss_one (ps_asg (pe_not (pe_ix (r := rIxL K) ix_list (pv 2) (pv 3) (fun _ _ => rfl))) (pg_sub (pv 2) (pv 3) set_list)))
      pss_nil)))
      (pss_one (ps_ret (pv 2))))), ?_⟩
    walk_at "start"
    walk_at "x"
    refine x_listL (sq_of hba) fun l hl => ?_
    have s1 := same_upd (o := .lst (bls bs)) hl
    have e1 : (upd H l (.lst (bls bs))) l = _ := upd_same
    generalize upd H l (.lst (bls bs)) = H1 at s1 e1
    walk_at "x"
    refine x_forL (p := ga) (as.map V.ref) (fun k σ' H' => ∃ v3 v4 v5, σ' = [some (.ref ga), some (.ref ba), some (.ref l), v3, v4, v5] ∧ Same H H' ∧ H' l = some (.lst (bls (perfF (gs.take k) bs)))) (fun R r => by walk_at "x"; exact r) (sq_of (s1 _ _ hga)) ⟨_, _, _, rfl, s1, e1⟩ (fun k σ' H' _ z => by obtain ⟨_, _, _, _, z, _⟩ := z; exact sq_of (z _ _ hga)) ?_ ?_
    · rintro k x σ' H2 hx ⟨v3, v4, v5, rfl, s2, e2⟩
      obtain ⟨b, hb2, rfl⟩ := map_getR hx
      obtain ⟨g, hg1, c, hg2, hg3⟩ := hG.get hb2
      have okg := ok g (List.mem_of_getElem? hg1)
      refine x_gTup2 (st_of (s2 _ _ hg2)) ?_
      walk_at "x"
      have hlen : (perfF (gs.take k) bs).length = bs.length := perfF_len
      generalize hB : perfF (gs.take k) bs = B at e2 hlen
      have fin : ∀ H5, Same H H5 → H5 l = some (.lst (bls (perfG B g))) → Same H H5 ∧ H5 l = some (.lst (bls (perfF (gs.take (k + 1)) bs))) := fun H5 s e => ⟨s, by rw [take_snocG hg1, perfF_snoc, hB]; exact e⟩
      refine x_lcTT (K := K) (a := c) (cInts g.2) (fun p j H' => Same H2 H' ∧ ∃ acc, H' p = some (.lst acc) ∧ acc.length ≤ j ∧ (acc.length = 0 ↔ (g.2.take j).all (fun c => B.getD c false) = true)) (fun R r => by walk_at "x"; exact r) (st_of (s2 _ _ hg3)) (fun p hp => ⟨same_upd hp, [], upd_same, Nat.le_refl _, by simp⟩) (fun p j H' hp hj z => st_of (z.1 _ _ (s2 _ _ hg3))) (fun x => rfl) ?_ ?_
      · rintro p j x H3 hp hx ⟨s3, acc, ha, hal, hiff⟩
        obtain ⟨n, hn, rfl⟩ : ∃ n : Nat, g.2[j]? = some n ∧ x = .int (n : Int) := by
          unfold cInts at hx
          rw [List.getElem?_map] at hx
          cases e : g.2[j]? with
          | none => rw [e] at hx; cases hx
          | some n => rw [e] at hx; exact ⟨n, rfl, (Option.some.inj hx).symm⟩
        have hnb := okg.c n (List.mem_of_getElem? hn)
        have hj : j < 1000000 := by
          have h1 := okg.len
          have h2 := (List.getElem?_eq_some_iff.mp hn).1
          omega
        walk_at "x"
        refine x_ixL (sq_of (s3 _ _ e2)) (atI_nat (bls_get (by omega))) ?_
        walk_at "x"
        refine x_iteBN (fun hb => ?_) (fun hb => ?_)
        · walk_at "x"
          refine ⟨acc, ha, lt_line (by omega), sput s3 hp, _, upd_same, by rw [List.length_append]; exact Nat.add_le_add_right hal 1, ?_⟩
          rw [take_snocG hn, List.all_append, show ([n].all fun c => B.getD c false) = B.getD n false from Bool.and_true _, hb, Bool.and_false, List.length_append]
          exact ⟨fun z => absurd z (Nat.succ_ne_zero _), fun z => by cases z⟩
        · refine ⟨s3, acc, ha, Nat.le_succ_of_le hal, ?_⟩
          rw [take_snocG hn, List.all_append, show ([n].all fun c => B.getD c false) = B.getD n false from Bool.and_true _, hb, Bool.and_true]
          exact hiff
      · rintro p H3 hp ⟨s3, acc, ha, hal, hiff⟩
        walk_at "x"
        refine x_len (sq_of ha) ?_
        walk_at "x"
        have ef : (g.2.take (cInts g.2).length) = g.2 := by
          have : (cInts g.2).length = g.2.length := by unfold cInts; rw [List.length_map]
          rw [this, List.take_length]
        rw [ef] at hiff
        refine x_ite (fun h0 => ?_) (fun h0 => ?_)
        · walk_at "x"
          have hall := hiff.mp (by omega)
          have htb : g.1 < B.length := by rw [hlen]; exact okg.t
          refine x_ixL (sq_of (s3 _ _ e2)) (atI_nat (bls_get htb)) ?_
          walk_at "x"
          refine x_subL (k := g.1) (s3 _ _ e2) (by rw [bls_len]; exact ixN_nat htb) ?_
          walk_at "x"
          refine ⟨_, _, _, rfl, fin _ (same_keep hl (s2.trans s3) keep_upd) ?_⟩
          rw [upd_same, bls_set]
          unfold perfG
          rw [if_pos hall]
        · walk_at "x"
          refine ⟨_, _, _, rfl, fin _ (s2.trans s3) ?_⟩
          unfold perfG
          rw [if_neg (fun hh => h0 (by have := hiff.mpr hh; omega))]
          exact s3 _ _ e2
    · rintro σ' H2 ⟨v3, v4, v5, rfl, s2, e2⟩
      walk_at "x"
      refine q l _ hl s2 ?_
      rw [e2, List.length_map, hG.1, List.take_length]




end
end Br
namespace Br
open PySem PySem.Spec PyProof.Rows L2
local macro_rules | `(tactic| walk_at "x1") => `(tactic| (with_reducible first
  | refine Br.x_seq ?_ | refine Br.x_set ?_ | refine Br.x_asg ?_ | refine Br.x_next ?_ | refine Br.x_ret ?_ | refine Br.x_retN ?_ | refine Br.x_drop ?_ | refine Br.x_if ?_ | refine Br.x_brk ?_ | refine Br.x_cont ?_
  | refine Br.x_c ?_ | refine Br.x_op ?_ | refine Br.x_un ?_ | refine Br.x_I0 ?_ | refine Br.x_U ?_ | refine Br.x_EqI ?_ | refine Br.x_NeI ?_ | refine Br.x_EqB ?_ | refine Br.x_iN ?_ | refine Br.x_int1 ?_ | refine Br.x_min2 ?_ | refine Br.x_max2 ?_ | refine Br.x_nN ?_ | refine Br.x_ifE ?_
  | refine Br.x_test (b := ()) ?_ | refine Br.x_tB ?_ | refine Br.x_bl ?_ | refine Br.x_and ?_ | refine Br.x_or ?_ | refine Br.x_not ?_ | refine Br.x_andV ?_ | refine Br.x_orV ?_ | refine Br.x_notV ?_ | refine Br.x_blP ?_
  | refine Br.x_nil ?_ | refine Br.x_cons ?_ | refine Br.x_call ?_ | refine Br.x_CB ?_ | refine Br.x_BM ?_ | refine Br.x_tup ?_ | refine Br.x_lst ?_ | refine Br.x_chain ?_ | refine Br.x_par ?_ | refine Br.x_gSub ?_ | refine Br.x_gName ?_ | refine Br.x_fld ?_ | refine Br.x_fldS ?_ | refine Br.x_match ?_ | refine Br.x_else ?_ | refine Br.x_noCase ?_))
local macro_rules | `(tactic| walk_at "xv") => `(tactic| ((with_reducible refine' Br.x_var ?hvar ?_); (case hvar => rfl)))
local macro_rules | `(tactic| walk_at "xd") => `(tactic| (dsimp only [List.set_cons_zero, List.set_cons_succ, List.cons_append, List.nil_append, List.append_nil]))
local macro_rules | `(tactic| walk_at "xi") => `(tactic| ((with_reducible refine Br.x_I ?hside ?_); (case hside => first | exact Br.mul_r (by decide) (by decide) | exact Br.mul_l (by decide) (by decide) | exact Br.mul_l (by omega) (by omega) | exact Br.mul_r (by omega) (by omega) | (show (0 : Int) < _; first | decide | omega) | exact ⟨by decide, by decide⟩ | exact ⟨by omega, by omega⟩ | exact ⟨by decide, by decide, by decide⟩)))
local macro_rules | `(tactic| walk_at "x") => `(tactic| (repeat (first | walk_at "x1" | walk_at "xv" | walk_at "xi" | walk_at "xd")))
local macro_rules | `(tactic| walk_at "start") => `(tactic| (simp only [L2.start, List.map_cons, List.map_nil, List.length_cons, List.length_nil, Nat.reduceAdd, Nat.reduceSub, List.replicate, List.cons_append, List.nil_append, List.append_nil]))
local macro_rules | `(tactic| walk_at "isi") => `(tactic| first
  | refine Br.x_isi (b := true) (.base (.int _)) (by decide +kernel) ?_ | refine Br.x_isi (b := false) (.base (.int _)) (by decide +kernel) ?_
  | refine Br.x_isi (b := true) (.base (.bl _)) (by decide +kernel) ?_ | refine Br.x_isi (b := false) (.base (.bl _)) (by decide +kernel) ?_
  | refine Br.x_isi (b := false) (.base .non) (by decide +kernel) ?_
  | refine Br.x_isi (b := true) (.base (.str _)) (by decide +kernel) ?_ | refine Br.x_isi (b := false) (.base (.str _)) (by decide +kernel) ?_
  | refine Br.x_isi (b := true) (.base (.tup (by assumption))) (by decide +kernel) ?_ | refine Br.x_isi (b := false) (.base (.tup (by assumption))) (by decide +kernel) ?_
  | refine Br.x_isi (b := true) (.base (.lst (by assumption))) (by decide +kernel) ?_ | refine Br.x_isi (b := false) (.base (.lst (by assumption))) (by decide +kernel) ?_)
local macro_rules | `(tactic| walk_at "f") => `(tactic| (refine L2.iteF ?_; walk_at "x"))
local macro_rules | `(tactic| walk_at "t") => `(tactic| (refine L2.iteT ?_; walk_at "x"))
local macro_rules | `(tactic| walk_at "is") => `(tactic| (walk_at "isi"; walk_at "x"))
local macro_rules | `(tactic| walk_at "xb") => `(tactic| (simp only [Br.bindS, List.set_cons_zero, List.set_cons_succ]; walk_at "x"))

section
variable {P : Program} {w : World} {K : PySem.W.Frag} {mg : Str → Option Value} {base : Heap}

open Br
theorem x_revL {te : TE} {σ : L2.St} {H : Hp} {Q : VK} (h : te σ H fun x H1 => ∃ a xs, x = .ref a ∧ SqL K H1 a xs ∧ ∀ p, H1 p = none → Q (.ref p) (upd H1 p (.lst xs.reverse))) : tRevL K te σ H Q := h
theorem x_lenSet {K : PySem.W.Frag} {σ : L2.St} {H : Hp} {Q : VK} {ta : TE} (h : ta σ H fun x H1 => ∃ (l : Addr) (ns : List Int), x = V.ref l ∧ (SqL K H1 l (ns.map V.int) ∨ SqT K H1 l (ns.map V.int)) ∧ ns.length ≤ 4000 ∧ ∀ c : Nat, (c = ns.length ↔ ns.Nodup) → c ≤ ns.length → Q (.int (c : Nat)) H1) : tLenSet K ta σ H Q := h
theorem DAts.intsOf {d : Addr} {H : Hp} : ∀ {xs : List V} {es : List PyData}, DAts d H xs es → (∀ e, e ∈ es → ∃ i : Int, e = .int i) → xs = (es.map intD).map V.int
  | [], _, h, _ => by cases h; rfl
  | v :: xs, _, h, hf => by
    cases h with
    | cons h hs =>
      rename_i e es
      obtain ⟨i, rfl⟩ := hf e List.mem_cons_self
      cases h
      rw [DAts.intsOf hs fun e he => hf e (List.mem_cons_of_mem _ he)]
      rfl

def sp_are_borrowed (K : PySem.W.Frag) : Sp := fun vs H Q _ => ∃ (d tk : Addr) (v : V) (e : PyData) (n : Int) (ns : List Int), vs = [v, .int n, .ref tk] ∧ DAt d H v e ∧ H tk = some (.lst (ns.map V.int)) ∧ ns.length ≤ 1000 ∧ n ≤ 1000 ∧ ∀ H', Same H H' → Q (.bl (borD ns n e)) H'
theorem ok_are_borrowed (T : Txt K mg) : FnOk P w K mg base CX0 3 T.a_are_borrowed T.fd_are_borrowed ["borrowed", "needed", "taken"] (sp_are_borrowed K) := by
  refine T.F_are_borrowed.ok sc_are_borrowed (fun vs H Q E h => ?_) (fun cdv A outer s H vs Q E hr h => ?_)
  · obtain ⟨d, tk, v, e, n, ns, rfl, _⟩ := h
    rfl
  · obtain ⟨d, tk, v, e, n, ns, rfl, hv, htk, hns, hn9, q⟩ := h
    refine ⟨_, (pss_cons (ps_if (PW.pt (pw_or (pt_not (pt_val (pe_callB (id := "isinstance") (r := rIsi K) call_isi (by rfl) T.m_isinstance (by decide +kernel) (pa_cons (pv 0) (pa_cons (pe_bltn (v := .ty "list") (by rfl) T.m_list (by decide +kernel) rfl) pa_nil))))) (pw_or1 (pt_cmpR op_ne (pe_callB (id := "len") (r := rLen K) cr_len (by rfl) T.m_len PySem.boot_len (pa_cons (pv 0) pa_nil)) (pv 1) (nomark _)))))
      (pss_one (ps_ret pe_bl))
      pss_nil)
      (pss_cons (ps_if (pt_not (pt_val (pe_callB (id := "all") (r := rAll K) (cr_all rfl) (by rfl) T.m_all (by decide +kernel) (pa_cons (pe_lc (own := [("bit", 3)]) (g := gName 3) (tt := tYes) rfl sc_are_borrowed.nd (pi_list (pv 0)) (blkOk_by (N := N_are_borrowed) (sc := defScope s_are_borrowed) (by decide +kernel)) (fun _ _ _ _ _ => (pg_name (i := 3) sc_are_borrowed.nd rfl (Or.inl rfl))) (fun _ _ _ _ _ => pts_nil) (fun _ _ _ _ _ => (pe_call (ok_is_bit T) hr (by rfl) T.g_is_bit T.F_is_bit.kp T.b_is_bit .nil pass0 (pa_cons (pv 3) pa_nil)))) pa_nil))))
      (pss_one (ps_ret pe_bl))
      pss_nil)
      (pss_one (ps_ret (pe_cmpR op_eq (pe_lenSetA (by rfl) T.m_len (by rfl) T.m_set (pe_op op_cat (pv 2) (pv 0))) (pe_op op_add (pe_callB (id := "len") (r := rLen K) cr_len (by rfl) T.m_len PySem.boot_len (pa_cons (pv 2) pa_nil)) (pv 1)) (nomark _)))))), ?_⟩
    walk_at "start"
    cases hv with
    | lst hd h hs =>
      rename_i a xs es
      have hlen := hs.len
      have ep : borD ns n (.list es) = (decide ((es.length : Int) = n) && (es.all (isBD 120) && decide ((ns ++ es.map intD).Nodup))) := rfl
      walk_at "x"
      walk_at "is"
      walk_at "f"
      refine x_len (sq_of h) ?_
      walk_at "x"
      refine x_iteN (fun hc => ?_) (fun hc => ?_)
      · walk_at "x"
        have e : borD ns n (.list es) = false := by rw [ep, decide_eq_false (by omega)]; rfl
        rw [← e]
        exact q H (Same.refl _)
      · walk_at "x"
        refine x_lcB (xs := xs) (fun i => isBD 120 (es.getD i .none)) (J := Itl K a) (G := fun H => SqL K H a xs) (fun R r => ⟨_, rfl, a, rfl, ⟨xs, sq_of h⟩, r⟩) walk_list (by omega) (fun H' s => sq_of (s _ _ h)) (fun x => rfl) ?_ ?_
        · intro i x H' s hx R hR
          obtain ⟨f, hf, hxf⟩ := hs.get hx
          rw [getDD hf] at hR
          have hxf := DAt.same s f hxf
          walk_at "x"
          exact ⟨d, x, f, rfl, hxf, hR H' (Same.refl _)⟩
        · intro p H' hp s hP
          walk_at "x"
          refine x_all hP ?_
          rw [hlen, range_allD (f := isBD 120)]
          walk_at "x"
          refine x_iteBN (fun hb => ?_) (fun hb => ?_)
          · walk_at "x"
            have e : borD ns n (.list es) = false := by rw [ep, hb, Bool.false_and, Bool.and_false]
            rw [← e]
            exact q H' s
          · walk_at "x"
            have hall : ∀ e, e ∈ es → ∃ i : Int, e = .int i := fun e he => by
              obtain ⟨i, hi, _⟩ := isBD_iff.mp (List.all_eq_true.mp hb e he)
              exact ⟨i, hi⟩
            have hxi := hs.intsOf hall
            rw [hxi] at h
            refine x_lenSet ?_
            walk_at "x"
            refine x_cat (s _ _ htk) (s _ _ h) (by rw [List.length_map, List.length_map, List.length_map]; omega) fun r hr => ?_
            have s2 := s.trans (same_upd (o := .lst (ns.map V.int ++ (es.map intD).map V.int)) hr)
            have e2 : (upd H' r (.lst (ns.map V.int ++ (es.map intD).map V.int))) r = _ := upd_same
            generalize upd H' r (.lst (ns.map V.int ++ (es.map intD).map V.int)) = H2 at s2 e2
            rw [← List.map_append] at e2
            refine ⟨r, ns ++ es.map intD, rfl, .inl (sq_of e2), by rw [List.length_append, List.length_map]; omega, fun c hc1 hc2 => ?_⟩
            walk_at "x"
            refine x_len (sq_of (s2 _ _ htk)) ?_
            rw [List.length_map]
            walk_at "x"
            have e : borD ns n (.list es) = decide ((c : Int) = (ns.length : Int) + n) := by
              rw [ep, hb, decide_eq_true (by omega), Bool.true_and, Bool.true_and]
              rw [List.length_append, List.length_map] at hc1
              exact decide_eq_decide.mpr (hc1.symm.trans ⟨fun z => by omega, fun z => by omega⟩)
            rw [← e]
            exact q H2 s2
    | int i =>
      walk_at "x"
      walk_at "is"
      walk_at "t"
      exact q H (Same.refl _)
    | bl b =>
      walk_at "x"
      walk_at "is"
      walk_at "t"
      exact q H (Same.refl _)
    | non =>
      walk_at "x"
      walk_at "is"
      walk_at "t"
      exact q H (Same.refl _)
    | str z =>
      walk_at "x"
      walk_at "is"
      walk_at "t"
      exact q H (Same.refl _)
    | tup h hs =>
      walk_at "x"
      walk_at "is"
      walk_at "t"
      exact q H (Same.refl _)


def sp_gate_of_two (K : PySem.W.Frag) : Sp := fun vs H Q _ => ∃ (t a b : Nat), vs = [.int (t : Int), .int (a : Int), .int (b : Int)] ∧ ∀ r H', Same H H' → GtAt H' r (two t a b) → Q (.ref r) H'
theorem ok_gate_of_two (T : Txt K mg) : FnOk P w K mg base CX0 1 T.a_gate_of_two T.fd_gate_of_two ["target", "a", "b"] (sp_gate_of_two K) := by
  refine T.F_gate_of_two.ok sc_gate_of_two (fun vs H Q E h => ?_) (fun cdv A outer s H vs Q E hr h => ?_)
  · obtain ⟨t, a, b, rfl, _⟩ := h
    rfl
  · obtain ⟨t, a, b, rfl, q⟩ := h
    refine ⟨_, (pss_one (ps_ret (pe_tup (pa_cons (pv 0) (pa_cons (pe_ifExp (pt_cmpR op_lt (pv 1) (pv 2) (nomark _)) (pe_tup (pa_cons (pv 1) (pa_cons (pv 2) pa_nil))) (pe_tup (pa_cons (pv 2) (pa_cons (pv 1) pa_nil)))) pa_nil))))), ?_⟩
    walk_at "start"
    walk_at "x"
    refine x_ite (fun hc => ?_) (fun hc => ?_)
    · walk_at "x"
      refine ⟨by show 2 ≤ sizeLine; decide, fun r hr => ?_⟩
      have s1 := same_upd (o := .tup [.int (a : Int), .int (b : Int)]) hr
      have e1 : (upd H r (.tup [.int (a : Int), .int (b : Int)])) r = _ := upd_same
      generalize upd H r (.tup [.int (a : Int), .int (b : Int)]) = H1 at s1 e1
      walk_at "x"
      refine ⟨by show 2 ≤ sizeLine; decide, fun r2 hr2 => ?_⟩
      have s2 := same_upd (o := .tup [.int (t : Int), .ref r]) hr2
      refine q _ _ (s1.trans s2) ⟨r, upd_same, ?_⟩
      have : (two t a b).2 = [a, b] := if_pos (by omega)
      rw [this]
      exact s2 _ _ e1
    · walk_at "x"
      refine ⟨by show 2 ≤ sizeLine; decide, fun r hr => ?_⟩
      have s1 := same_upd (o := .tup [.int (b : Int), .int (a : Int)]) hr
      have e1 : (upd H r (.tup [.int (b : Int), .int (a : Int)])) r = _ := upd_same
      generalize upd H r (.tup [.int (b : Int), .int (a : Int)]) = H1 at s1 e1
      walk_at "x"
      refine ⟨by show 2 ≤ sizeLine; decide, fun r2 hr2 => ?_⟩
      have s2 := same_upd (o := .tup [.int (t : Int), .ref r]) hr2
      refine q _ _ (s1.trans s2) ⟨r, upd_same, ?_⟩
      have : (two t a b).2 = [b, a] := if_neg (by omega)
      rw [this]
      exact s2 _ _ e1


def sp_spread (CG : Addr) (K : PySem.W.Frag) : Sp := fun vs H Q E => ∃ (d : Addr) (tv cv bv : V) (te ce be : PyData), vs = [tv, cv, bv] ∧ DAt d H tv te ∧ DAt d H cv ce ∧ DAt d H bv be ∧
  ((¬ ∃ (t : Nat) (cs bs : List Nat), te = .int (t : Int) ∧ ce = .tuple (natsD cs) ∧ be = .list (natsD bs) ∧ GtOk 120 (t, cs) ∧ bs.length = cs.length - 2 ∧ (∀ b, b ∈ bs → b < 120) ∧ (t :: cs ++ bs).Nodup) → ∀ H', Same H H' → E (.ref CG) none H') ∧
  (∀ (t : Nat) (cs bs : List Nat), te = .int (t : Int) → ce = .tuple (natsD cs) → be = .list (natsD bs) → GtOk 120 (t, cs) → bs.length = cs.length - 2 → (∀ b, b ∈ bs → b < 120) → (t :: cs ++ bs).Nodup →
    ∀ l as H', H l = none → Same H H' → H' l = some (.lst (as.map V.ref)) → GtsAt H' as (spreadF t cs bs) → Q (.ref l) H')
theorem ok_spread (T : Txt K mg) : FnOk P w K mg base (L2.CX P w) 5 T.a_spread T.fd_spread ["target", "controls", "borrowed"] (sp_spread T.E_BadGate K) := by
  refine T.F_spread.okX sc_spread (fun vs H Q E h => ?_) (fun cdv A outer s H vs Q E hr h => ?_)
  · obtain ⟨d, tv, cv, bv, te, ce, be, rfl, _⟩ := h
    rfl
  · obtain ⟨d, tv, cv, bv, te, ce, be, rfl, ht, hc, hb, hE, hQ⟩ := h
    refine ⟨_, (pss_cons (ps_if (pt_not (pt_val (pe_call (ok_is_gate T) hr (by rfl) T.g_is_gate T.F_is_gate.kp T.b_is_gate .nil pass0 (pa_cons (pe_tup (pa_cons (pv 0) (pa_cons (pv 1) pa_nil))) pa_nil))))
      (pss_one (ps_raise rfl (takes_of rfl rfl rfl rfl) (pmk_own PySem.F.excBase_ValueError T.xE_BadGate T.gE_BadGate T.kE_BadGate (raises_own T.bE_BadGate T.tE_BadGate) (by exact rfl))))
      pss_nil)
      (pss_cons (ps_if (pt_not (pt_val (pe_call (ok_are_borrowed T) (hr.mono (by decide)) (by rfl) T.g_are_borrowed T.F_are_borrowed.kp T.b_are_borrowed .nil pass0 (pa_cons (pv 2) (pa_cons (pe_callB (id := "max") (r := rMax2) (cr_max2 rfl) (by rfl) T.m_max (by decide +kernel) (pa_cons pe_int (pa_cons (pe_op op_sub (pe_callB (id := "len") (r := rLen K) cr_len (by rfl) T.m_len PySem.boot_len (pa_cons (pv 1) pa_nil)) pe_int) pa_nil))) (pa_cons (pe_op op_cat (pe_lst (pa_cons (pv 0) pa_nil)) (pe_callTy (T := "list") (r := rListOf K) cr_list_of (by rfl) T.m_list (by decide +kernel) (pa_cons (pv 1) pa_nil))) pa_nil))))))
      (pss_one (ps_raise rfl (takes_of rfl rfl rfl rfl) (pmk_own PySem.F.excBase_ValueError T.xE_BadGate T.gE_BadGate T.kE_BadGate (raises_own T.bE_BadGate T.tE_BadGate) (by exact rfl))))
      pss_nil)
      (PSs.nox (pss_cons (ps_if (pt_not (pt_truth (pv 2) (by intro _; rfl)))
      (pss_one (ps_ret (pe_lst (pa_cons (pe_tup (pa_cons (pv 0) (pa_cons (pv 1) pa_nil))) pa_nil))))
      pss_nil)
      (pss_cons (ps_set (i := 3) sc_spread.nd rfl (.inr rfl) (pe_op op_cat (pe_lst (pa_cons (pv 0) pa_nil)) (pe_revL (pv 2))))
      (pss_cons (ps_setLc (i := 4) (own := [("at", 7)]) (g := gName 7) (tt := tYes) rfl sc_spread.nd rfl rfl (sw_true rfl rfl rfl (by decide +kernel)) (pi_range1 (by rfl) T.m_range (pa_cons (pe_callB (id := "len") (r := rLen K) cr_len (by rfl) T.m_len PySem.boot_len (pa_cons (pv 2) pa_nil)) pa_nil)) (blkOk_by (N := N_spread) (sc := defScope s_spread) (by decide +kernel)) (fun _ _ _ _ _ => (pg_name (i := 7) sc_spread.nd rfl (Or.inl rfl))) (fun _ _ _ _ _ => pts_nil) (fun _ _ _ _ _ => (pe_call (ok_gate_of_two T) (hr.mono (by decide)) (by rfl) T.g_gate_of_two T.F_gate_of_two.kp T.b_gate_of_two .nil pass0 (pa_cons (pe_ix (r := rIxL K) ix_list (pv 3) (pv 7) (fun _ _ => rfl)) (pa_cons (pe_ix (r := rIxL K) ix_list (pv 3) (pe_op op_add (pv 7) pe_int) (fun _ _ => rfl)) (pa_cons (pe_ix (r := rIxT K) ix_tup (pv 1) (pe_op op_sub (pe_un un_neg pe_int) (pv 7)) (fun _ _ => rfl)) pa_nil))))))
      (pss_cons (ps_set (i := 5) sc_spread.nd rfl (.inl rfl) (pe_lst (pa_cons (pe_tup (pa_cons (pe_ix (r := rIxL K) ix_list (pv 3) (pe_un un_neg pe_int) (fun _ _ => rfl)) (pa_cons (pe_slice (r := rSlT K) sl_tup (pv 1) po_none (po_some pe_int)) pa_nil))) pa_nil)))
      (pss_cons (ps_set (i := 6) sc_spread.nd rfl (.inl rfl) (pe_slice (r := rSlL K) sl_list (pv 4) (po_some pe_int) po_none))
      (pss_one (ps_ret (pe_op op_cat (pe_op op_cat (pe_op op_cat (pe_op op_cat (pe_op op_cat (pv 4) (pv 5)) (pe_revL (pv 4))) (pv 6)) (pv 5)) (pe_revL (pv 6))))))))))))), ?_⟩
    walk_at "start"
    walk_at "x"
    refine ⟨by show 2 ≤ sizeLine; decide, fun r0 hr0 => ?_⟩
    have s1 := same_upd (o := .tup [tv, cv]) hr0
    have e1 : (upd H r0 (.tup [tv, cv])) r0 = _ := upd_same
    generalize upd H r0 (.tup [tv, cv]) = H1 at s1 e1
    refine ⟨d, _, .tuple [te, ce], rfl, .tup e1 (.cons (DAt.same s1 _ ht) (.cons (DAt.same s1 _ hc) .nil)), ?_⟩
    walk_at "x"
    refine x_iteBN (fun h0 => ?_) (fun h0 => ?_)
    · exact hE (fun ⟨t, cs, bs, h1, h2, h3, h4, _⟩ => by subst h1 h2; rw [show PyData.tuple [.int (t : Int), .tuple (natsD cs)] = gtD (t, cs) from rfl, gateD_ok h4] at h0; cases h0) H1 s1
    obtain ⟨⟨t, cs⟩, hg, ok⟩ := gateD_iff.mp h0
    obtain ⟨rfl, h2⟩ := List.cons.inj (PyData.tuple.inj hg)
    obtain rfl : ce = .tuple (natsD cs) := (List.cons.inj h2).1
    have ht : DAt d H tv (.int (t : Int)) := ht
    clear h0 hg h2 e1 hr0
    cases ht
    cases hc with
    | tup hca hcs =>
      rename_i ca cxs
      obtain rfl := cInts_of hcs
      have hcl := ok.len
      have hcl : cs.length ≤ 120 := hcl
      have hcI : (cInts cs).length = cs.length := cInts_len
      walk_at "x"
      refine x_lenT (st_of (s1 _ _ hca)) ?_
      rw [hcI]
      walk_at "x"
      obtain ⟨nn, en, hnn⟩ : ∃ nn : Nat, (if (cs.length : Int) - 2 > 0 then (cs.length : Int) - 2 else 0) = (nn : Int) ∧ nn = cs.length - 2 := ⟨cs.length - 2, by split <;> omega, rfl⟩
      rw [en]
      refine ⟨by show 1 ≤ sizeLine; decide, fun p hp => ?_⟩
      have s2 := s1.trans (same_upd (o := .lst [.int (t : Int)]) hp)
      have e2 : (upd H1 p (.lst [.int (t : Int)])) p = _ := upd_same
      generalize upd H1 p (.lst [.int (t : Int)]) = H2 at s2 e2
      walk_at "x"
      refine x_listT (st_of (s2 _ _ hca)) fun p2 hp2 => ?_
      have s3 := s2.trans (same_upd (o := .lst (cInts cs)) hp2)
      have e3 := same_upd (o := .lst (cInts cs)) hp2 _ _ e2
      have e4 : (upd H2 p2 (.lst (cInts cs))) p2 = _ := upd_same
      generalize upd H2 p2 (.lst (cInts cs)) = H3 at s3 e3 e4
      refine x_cat e3 e4 (by rw [hcI]; show 1 + cs.length ≤ 1000000; omega) fun p3 hp3 => ?_
      have s4 := s3.trans (same_upd (o := .lst ([.int (t : Int)] ++ cInts cs)) hp3)
      have e5 : (upd H3 p3 (.lst ([.int (t : Int)] ++ cInts cs))) p3 = _ := upd_same
      generalize upd H3 p3 (.lst ([.int (t : Int)] ++ cInts cs)) = H4 at s4 e5
      have ei : [V.int (t : Int)] ++ cInts cs = ((t : Int) :: cs.map fun (c : Nat) => (c : Int)).map V.int := by rw [cInts_eq]; rfl
      rw [ei] at e5
      refine ⟨d, p3, bv, be, nn, _, rfl, DAt.same s4 _ hb, e5, by rw [List.length_cons, List.length_map]; omega, by omega, fun H5 s5 => ?_⟩
      have s5 := s4.trans s5
      walk_at "x"
      refine x_iteBN (fun h1 => ?_) (fun h1 => ?_)
      · exact hE (fun ⟨t', cs', bs, h1', h2, h3, h4, h5, h6, h7⟩ => by
          obtain rfl : t = t' := by have := PyData.int.inj h1'; omega
          obtain rfl : cs = cs' := (List.map_inj_right (fun _ _ z => Int.ofNat.inj (PyData.int.inj z))).mp (PyData.tuple.inj h2)
          rw [borD_iff.mpr ⟨bs, h3, by omega, h6, h7⟩] at h1; cases h1) H5 s5
      obtain ⟨bs, rfl, hbl, hb12, hnd⟩ := borD_iff.mp h1
      have q := hQ t cs bs rfl rfl rfl ok (by omega) hb12 hnd
      clear hE hQ h1 e2 e3 e4 e5 hp hp2 hp3 ei s1 s2 s3 s4
      cases hb with
      | lst hbd hba hbs =>
        rename_i ba bxs
        obtain rfl := cInts_of hbs
        have hbI : (cInts bs).length = bs.length := cInts_len
        have hba5 := s5 _ _ hba
        have hca5 := s5 _ _ hca
        walk_at "x"
        refine ⟨_, .inl ⟨cInts bs, sq_of hba5, rfl⟩, ?_⟩
        have q0 := q
        unfold spreadF at q
        by_cases hbe : bs = []
        · subst hbe
          walk_at "x"
          rw [if_pos rfl] at q
          refine iteT ?_
          walk_at "x"
          refine ⟨by show 2 ≤ sizeLine; decide, fun r hr => ?_⟩
          have s6 := s5.trans (same_upd (o := .tup [.int (t : Int), .ref ca]) hr)
          have e6 : (upd H5 r (.tup [.int (t : Int), .ref ca])) r = _ := upd_same
          generalize upd H5 r (.tup [.int (t : Int), .ref ca]) = H6 at s6 e6
          walk_at "x"
          refine ⟨by show 1 ≤ sizeLine; decide, fun l hl => ?_⟩
          have s7 := s6.trans (same_upd (o := .lst [.ref r]) hl)
          refine q l [r] _ (s6.free hl) s7 upd_same (GtsAt.one ⟨ca, ?_, s7 _ _ hca⟩)
          exact same_upd hl _ _ e6
        · rw [if_neg hbe] at q
          have h3 : 3 ≤ cs.length := by
            have : 0 < bs.length := List.length_pos_iff.mpr hbe
            omega
          have hne : (cInts bs).isEmpty = false := by
            cases bs with
            | nil => exact absurd rfl hbe
            | cons b bs => rfl
          rw [hne]
          refine iteF ?_
          walk_at "x"
          refine ⟨by show 1 ≤ sizeLine; decide, fun p hp => ?_⟩
          have s6 := s5.trans (same_upd (o := .lst [.int (t : Int)]) hp)
          have e6 : (upd H5 p (.lst [.int (t : Int)])) p = _ := upd_same
          generalize upd H5 p (.lst [.int (t : Int)]) = H6 at s6 e6
          walk_at "x"
          refine x_revL ?_
          walk_at "x"
          refine ⟨ba, _, rfl, sq_of (s6 _ _ hba), fun p2 hp2 => ?_⟩
          rw [cInts_rev]
          have s7 := s6.trans (same_upd (o := .lst (cInts bs.reverse)) hp2)
          have e7 := same_upd (o := .lst (cInts bs.reverse)) hp2 _ _ e6
          have e7b : (upd H6 p2 (.lst (cInts bs.reverse))) p2 = _ := upd_same
          generalize upd H6 p2 (.lst (cInts bs.reverse)) = H7 at s7 e7 e7b
          refine x_cat e7 e7b (by rw [cInts_len, List.length_reverse]; show 1 + bs.length ≤ 1000000; omega) fun tu htu => ?_
          have s8 := s7.trans (same_upd (o := .lst ([.int (t : Int)] ++ cInts bs.reverse)) htu)
          have e8 : (upd H7 tu (.lst ([.int (t : Int)] ++ cInts bs.reverse))) tu = _ := upd_same
          generalize upd H7 tu (.lst ([.int (t : Int)] ++ cInts bs.reverse)) = H8 at s8 e8
          rw [show [V.int (t : Int)] ++ cInts bs.reverse = cInts (turnF t bs) from rfl] at e8
          clear e6 e7 e7b hp hp2 htu s6 s7 hba5 hca5
          have hca8 := s8 _ _ hca
          have hba8 := s8 _ _ hba
          have htl : (cInts (turnF t bs)).length = bs.length + 1 := by rw [cInts_len, turn_len]
          walk_at "x"
          refine x_lcR1 (bs.length : Int) (fun o k H' => Same H8 H' ∧ ∃ as : List Addr, H' o = some (.lst (as.map V.ref)) ∧ GtsAt H' as ((downF t cs bs).take k)) (fun R r => by walk_at "x"; refine x_len (sq_of hba8) ?_; rw [hbI]; exact r) (by omega) (by omega) (fun o ho => ⟨same_upd ho, [], upd_same, rfl, fun i x b h _ => by simp at h⟩) (fun x => rfl) ?_ ?_
          · rintro o k H9 ho hk ⟨s9, as, hO, hG⟩
            have hk : k < bs.length := by omega
            walk_at "x"
            refine x_ixL (sq_of (s9 _ _ e8)) (atI_nat (cInts_at2 (by rw [turn_len]; omega))) ?_
            walk_at "x"
            refine x_ixL (i := ((k + 1 : Nat) : Int)) (sq_of (s9 _ _ e8)) (atI_nat (cInts_at2 (by rw [turn_len]; omega))) ?_
            walk_at "x"
            refine x_ixT (st_of (s9 _ _ hca8)) (atI_back (by rw [hcI]; omega) (cInts_at2 (by rw [hcI]; omega))) ?_
            rw [hcI]
            walk_at "x"
            refine ⟨_, _, _, rfl, fun r HA sA hr => ?_⟩
            have hOA := sA _ _ hO
            have hT : ∀ b xs, HA b = some (.tup xs) → (upd HA o (.lst (as.map V.ref ++ [.ref r]))) b = some (.tup xs) := fun b xs e => by rw [upd_ne (ne_of e hOA (by intro z; cases z))]; exact e
            refine ⟨_, hOA, lt_line (by rw [List.length_map, hG.1, List.length_take]; omega), sput (s9.trans sA) ho, as ++ [r], by rw [upd_same, List.map_append]; rfl, ?_⟩
            rw [take_snocG (down_get hk)]
            exact (hG.tups fun b xs e => hT b xs (sA _ _ e)).snoc (hr.tups hT)
          rintro dn H9 hdn ⟨s9a, das, hdn9, hG9⟩
          rw [show ((bs.length : Int)).toNat = (downF t cs bs).length by rw [down_len]; omega, List.take_length] at hG9
          have hdal := hG9.1
          rw [down_len] at hdal
          have s9 := s8.trans s9a
          have e9 := s9a _ _ e8
          clear s9a e8 hca8 hba8 s8 hdn
          walk_at "x"
          -- last
          refine x_ixL (sq_of e9) (atI_m1 (by omega) (cInts_at2 (by rw [cInts_len, turn_len]; omega))) ?_
          rw [htl]
          walk_at "x"
          refine x_sl2 ?_
          walk_at "x"
          refine x_part0 (x_part1 ?_)
          walk_at "x"
          refine ⟨_, rfl, ca, _, rfl, st_of (s9 _ _ hca), ?_, fun p hp => ?_⟩
          · rw [hcI, show (2 : Int) = ((2 : Nat) : Int) from rfl, HT.sIx_nat]
            omega
          rw [show (2 : Int) = ((2 : Nat) : Int) from rfl, cutV_to (by rw [hcI]; omega), cInts_take]
          have sA := s9.trans (same_upd (o := .tup (cInts (cs.take 2))) hp)
          have eA := same_upd (o := .tup (cInts (cs.take 2))) hp _ _ hdn9
          have eA2 : (upd H9 p (.tup (cInts (cs.take 2)))) p = _ := upd_same
          have hGA := hG9.tups fun b xs e => same_upd (o := .tup (cInts (cs.take 2))) hp _ _ e
          generalize upd H9 p (.tup (cInts (cs.take 2))) = HA at sA eA eA2 hGA
          clear hdn9 hG9 s9 e9 hp
          walk_at "x"
          refine ⟨by show 2 ≤ sizeLine; decide, fun r hr => ?_⟩
          have sB := sA.trans (same_upd (o := .tup [.int (((turnF t bs).getD (bs.length + 1 - 1) 0 : Nat) : Int), .ref p]) hr)
          have eB := same_upd (o := .tup [.int (((turnF t bs).getD (bs.length + 1 - 1) 0 : Nat) : Int), .ref p]) hr _ _ eA
          have eB2 : (upd HA r (.tup [.int (((turnF t bs).getD (bs.length + 1 - 1) 0 : Nat) : Int), .ref p])) r = _ := upd_same
          have eB3 := same_upd (o := .tup [.int (((turnF t bs).getD (bs.length + 1 - 1) 0 : Nat) : Int), .ref p]) hr _ _ eA2
          have hGB := hGA.tups fun b xs e => same_upd (o := .tup [.int (((turnF t bs).getD (bs.length + 1 - 1) 0 : Nat) : Int), .ref p]) hr _ _ e
          generalize upd HA r (.tup [.int (((turnF t bs).getD (bs.length + 1 - 1) 0 : Nat) : Int), .ref p]) = HB at sB eB eB2 eB3 hGB
          have hL : GtAt HB r (lastF t cs bs) := ⟨p, eB2, eB3⟩
          clear eA eA2 hGA sA eB2 eB3 hr
          walk_at "x"
          refine ⟨by show 1 ≤ sizeLine; decide, fun la hla => ?_⟩
          have sC := same_upd (o := .lst [.ref r]) hla
          have eC := sC _ _ eB
          have eC2 : (upd HB la (.lst [.ref r])) la = _ := upd_same
          have hGC := hGB.tups fun b xs e => sC _ _ e
          have hLC := hL.tups fun b xs e => sC _ _ e
          have sC := sB.trans sC
          generalize upd HB la (.lst [.ref r]) = HC at sC eC eC2 hGC hLC
          clear eB hGB hL sB hla
          walk_at "x"
          -- again
          refine x_sl2 ?_
          walk_at "x"
          refine x_part1 ?_
          walk_at "x"
          refine ⟨_, rfl, x_part0 (x_cutL (sq_of eC) fun ag hag => ?_)⟩
          rw [show (1 : Int) = ((1 : Nat) : Int) from rfl, cutV_from (by rw [List.length_map]; omega), ← List.map_drop]
          have sD := same_upd (o := .lst ((das.drop 1).map V.ref)) hag
          have eD := sD _ _ eC
          have eD2 := sD _ _ eC2
          have eD3 : (upd HC ag (.lst ((das.drop 1).map V.ref))) ag = _ := upd_same
          have hGD := hGC.tups fun b xs e => sD _ _ e
          have hLD := hLC.tups fun b xs e => sD _ _ e
          have sD := sC.trans sD
          generalize upd HC ag (.lst ((das.drop 1).map V.ref)) = HD at sD eD eD2 eD3 hGD hLD
          clear eC eC2 hGC hLC sC hag
          have hda1 : (das.drop 1).length = bs.length - 1 := by rw [List.length_drop]; omega
          walk_at "x"
          -- the sum
          refine x_cat eD eD2 (by rw [List.length_map]; show das.length + 1 ≤ 1000000; omega) fun q1 hq1 => ?_
          have f1 := same_upd (o := .lst (das.map V.ref ++ [.ref r])) hq1
          have g1 : (upd HD q1 (.lst (das.map V.ref ++ [.ref r]))) q1 = _ := upd_same
          generalize upd HD q1 (.lst (das.map V.ref ++ [.ref r])) = I1 at f1 g1
          refine x_revL ?_
          walk_at "x"
          refine ⟨dn, _, rfl, sq_of (f1 _ _ eD), fun q2 hq2 => ?_⟩
          have f2 := same_upd (o := .lst (das.map V.ref).reverse) hq2
          have g2 : (upd I1 q2 (.lst (das.map V.ref).reverse)) q2 = _ := upd_same
          have g1 := f2 _ _ g1
          have f2 := f1.trans f2
          generalize upd I1 q2 (.lst (das.map V.ref).reverse) = I2 at f2 g1 g2
          refine x_cat g1 g2 (by simp only [List.length_append, List.length_map, List.length_reverse, List.length_cons, List.length_nil]; omega) fun q3 hq3 => ?_
          have f3 := f2.trans (same_upd (o := .lst (das.map V.ref ++ [.ref r] ++ (das.map V.ref).reverse)) hq3)
          have g3 : (upd I2 q3 (.lst (das.map V.ref ++ [.ref r] ++ (das.map V.ref).reverse))) q3 = _ := upd_same
          generalize upd I2 q3 (.lst (das.map V.ref ++ [.ref r] ++ (das.map V.ref).reverse)) = I3 at f3 g3
          walk_at "x"
          refine x_cat g3 (f3 _ _ eD3) (by simp only [List.length_append, List.length_map, List.length_reverse, List.length_cons, List.length_nil]; omega) fun q4 hq4 => ?_
          have f4 := f3.trans (same_upd (o := .lst (das.map V.ref ++ [.ref r] ++ (das.map V.ref).reverse ++ (das.drop 1).map V.ref)) hq4)
          have g4 : (upd I3 q4 (.lst (das.map V.ref ++ [.ref r] ++ (das.map V.ref).reverse ++ (das.drop 1).map V.ref))) q4 = _ := upd_same
          generalize upd I3 q4 (.lst (das.map V.ref ++ [.ref r] ++ (das.map V.ref).reverse ++ (das.drop 1).map V.ref)) = I4 at f4 g4
          walk_at "x"
          refine x_cat g4 (f4 _ _ eD2) (by simp only [List.length_append, List.length_map, List.length_reverse, List.length_cons, List.length_nil]; omega) fun q5 hq5 => ?_
          have f5 := f4.trans (same_upd (o := .lst (das.map V.ref ++ [.ref r] ++ (das.map V.ref).reverse ++ (das.drop 1).map V.ref ++ [.ref r])) hq5)
          have g5 : (upd I4 q5 (.lst (das.map V.ref ++ [.ref r] ++ (das.map V.ref).reverse ++ (das.drop 1).map V.ref ++ [.ref r]))) q5 = _ := upd_same
          generalize upd I4 q5 (.lst (das.map V.ref ++ [.ref r] ++ (das.map V.ref).reverse ++ (das.drop 1).map V.ref ++ [.ref r])) = I5 at f5 g5
          refine x_revL ?_
          walk_at "x"
          refine ⟨ag, _, rfl, sq_of (f5 _ _ eD3), fun q6 hq6 => ?_⟩
          have f6 := same_upd (o := .lst ((das.drop 1).map V.ref).reverse) hq6
          have g6 : (upd I5 q6 (.lst ((das.drop 1).map V.ref).reverse)) q6 = _ := upd_same
          have g5 := f6 _ _ g5
          have f6 := f5.trans f6
          generalize upd I5 q6 (.lst ((das.drop 1).map V.ref).reverse) = I6 at f6 g5 g6
          refine x_cat g5 g6 (by simp only [List.length_append, List.length_map, List.length_reverse, List.length_cons, List.length_nil]; omega) fun q7 hq7 => ?_
          have f7 := f6.trans (same_upd (o := .lst (das.map V.ref ++ [.ref r] ++ (das.map V.ref).reverse ++ (das.drop 1).map V.ref ++ [.ref r] ++ ((das.drop 1).map V.ref).reverse)) hq7)
          have hGZ := hGD.tups fun b xs e => f7 _ _ e
          have hLZ := hLD.tups fun b xs e => f7 _ _ e
          refine q q7 (das ++ [r] ++ das.reverse ++ das.drop 1 ++ [r] ++ (das.drop 1).reverse) _ ((sD.trans f6).free hq7) (sD.trans f7) ?_ ?_
          · rw [upd_same]
            simp only [List.map_append, List.map_reverse, List.map_cons, List.map_nil]
          · exact (((((hGZ.app (.one hLZ)).app hGZ.rev).app hGZ.drop).app (.one hLZ)).app hGZ.drop.rev)


end
end Br
namespace Br
open PySem PySem.Spec PyProof.Rows L2
local macro_rules | `(tactic| walk_at "x1") => `(tactic| (with_reducible first
  | refine Br.x_seq ?_ | refine Br.x_set ?_ | refine Br.x_asg ?_ | refine Br.x_next ?_ | refine Br.x_ret ?_ | refine Br.x_retN ?_ | refine Br.x_drop ?_ | refine Br.x_if ?_ | refine Br.x_brk ?_ | refine Br.x_cont ?_
  | refine Br.x_c ?_ | refine Br.x_op ?_ | refine Br.x_un ?_ | refine Br.x_I0 ?_ | refine Br.x_U ?_ | refine Br.x_EqI ?_ | refine Br.x_NeI ?_ | refine Br.x_EqB ?_ | refine Br.x_iN ?_ | refine Br.x_int1 ?_ | refine Br.x_min2 ?_ | refine Br.x_max2 ?_ | refine Br.x_nN ?_ | refine Br.x_ifE ?_
  | refine Br.x_test (b := ()) ?_ | refine Br.x_tB ?_ | refine Br.x_bl ?_ | refine Br.x_and ?_ | refine Br.x_or ?_ | refine Br.x_not ?_ | refine Br.x_andV ?_ | refine Br.x_orV ?_ | refine Br.x_notV ?_ | refine Br.x_blP ?_
  | refine Br.x_nil ?_ | refine Br.x_cons ?_ | refine Br.x_call ?_ | refine Br.x_CB ?_ | refine Br.x_BM ?_ | refine Br.x_tup ?_ | refine Br.x_lst ?_ | refine Br.x_chain ?_ | refine Br.x_par ?_ | refine Br.x_gSub ?_ | refine Br.x_gName ?_ | refine Br.x_fld ?_ | refine Br.x_fldS ?_ | refine Br.x_match ?_ | refine Br.x_else ?_ | refine Br.x_noCase ?_))
local macro_rules | `(tactic| walk_at "xv") => `(tactic| ((with_reducible refine' Br.x_var ?hvar ?_); (case hvar => rfl)))
local macro_rules | `(tactic| walk_at "xd") => `(tactic| (dsimp only [List.set_cons_zero, List.set_cons_succ, List.cons_append, List.nil_append, List.append_nil]))
local macro_rules | `(tactic| walk_at "xi") => `(tactic| ((with_reducible refine Br.x_I ?hside ?_); (case hside => first | exact Br.mul_r (by decide) (by decide) | exact Br.mul_l (by decide) (by decide) | exact Br.mul_l (by omega) (by omega) | exact Br.mul_r (by omega) (by omega) | (show (0 : Int) < _; first | decide | omega) | exact ⟨by decide, by decide⟩ | exact ⟨by omega, by omega⟩ | exact ⟨by decide, by decide, by decide⟩)))
local macro_rules | `(tactic| walk_at "x") => `(tactic| (repeat (first | walk_at "x1" | walk_at "xv" | walk_at "xi" | walk_at "xd")))
local macro_rules | `(tactic| walk_at "start") => `(tactic| (simp only [L2.start, List.map_cons, List.map_nil, List.length_cons, List.length_nil, Nat.reduceAdd, Nat.reduceSub, List.replicate, List.cons_append, List.nil_append, List.append_nil]))
local macro_rules | `(tactic| walk_at "isi") => `(tactic| first
  | refine Br.x_isi (b := true) (.base (.int _)) (by decide +kernel) ?_ | refine Br.x_isi (b := false) (.base (.int _)) (by decide +kernel) ?_
  | refine Br.x_isi (b := true) (.base (.bl _)) (by decide +kernel) ?_ | refine Br.x_isi (b := false) (.base (.bl _)) (by decide +kernel) ?_
  | refine Br.x_isi (b := false) (.base .non) (by decide +kernel) ?_
  | refine Br.x_isi (b := true) (.base (.str _)) (by decide +kernel) ?_ | refine Br.x_isi (b := false) (.base (.str _)) (by decide +kernel) ?_
  | refine Br.x_isi (b := true) (.base (.tup (by assumption))) (by decide +kernel) ?_ | refine Br.x_isi (b := false) (.base (.tup (by assumption))) (by decide +kernel) ?_
  | refine Br.x_isi (b := true) (.base (.lst (by assumption))) (by decide +kernel) ?_ | refine Br.x_isi (b := false) (.base (.lst (by assumption))) (by decide +kernel) ?_)
local macro_rules | `(tactic| walk_at "f") => `(tactic| (refine L2.iteF ?_; walk_at "x"))
local macro_rules | `(tactic| walk_at "t") => `(tactic| (refine L2.iteT ?_; walk_at "x"))
local macro_rules | `(tactic| walk_at "is") => `(tactic| (walk_at "isi"; walk_at "x"))
local macro_rules | `(tactic| walk_at "xb") => `(tactic| (simp only [Br.bindS, List.set_cons_zero, List.set_cons_succ]; walk_at "x"))

section
variable {P : Program} {w : World} {K : PySem.W.Frag} {mg : Str → Option Value} {base : Heap}

theorem Eqv.bls {K : PySem.W.Frag} {H : Hp} {n : Nat} {a b : Addr} {xs : List Bool} (h1 : H a = some (.lst (Br.bls xs))) (h2 : H b = some (.lst (Br.bls xs))) (hz : xs.length ≤ 100000) : Eqv K H (n + 2) (.ref a) (.ref b) :=
  Eqv.lst h1 h2 rfl (by rw [bls_len]; exact hz) fun i x y e1 e2 => by
    rw [e1] at e2
    cases e2
    obtain ⟨z, _, rfl⟩ := List.mem_map.mp (List.mem_of_getElem? e1)
    exact .bl
theorem keep_tupsG {d n : Addr} {H H' : Hp} (k : Keep d H H') (h : Dr H d n) : ∀ b xs, H b = some (.tup xs) → H' b = some (.tup xs) := fun b xs e => by
  obtain ⟨_, _, h, _⟩ := h
  exact k _ _ e (ne_of e h (by intro z; cases z))
theorem x_lcPreY {σ : L2.St} {H : Hp} {Q : VK} {ta : TE} {j : Nat} {te : TE} {vs : List Nat} (h : ta σ H fun v H1 => tLc (iRng1 (tCons (tC v) tNil)) (gName j) tYes te vs σ H1 Q) : tLc (iRng1 (tCons ta tNil)) (gName j) tYes te vs σ H Q := h
theorem x_forPre {σ : L2.St} {H : Hp} {D : Ends} {ta : TE} {g : TG} {tb : TS} (h : ta σ H fun v H1 => tFor (iRng1 (tCons (tC v) tNil)) g tb D σ H1) : tFor (iRng1 (tCons ta tNil)) g tb D σ H := h

open Br

def placesF (a s k : Nat) : List Nat := (List.range k).map fun i => (a + i * s) % 120
theorem places_snoc {a s k : Nat} : placesF a s (k + 1) = placesF a s k ++ [(a + k * s) % 120] := by
  unfold placesF
  rw [List.range_succ, List.map_append]
  rfl
theorem places_lt {a s k x : Nat} (h : x ∈ placesF a s k) : x < 120 := by
  obtain ⟨i, _, rfl⟩ := List.mem_map.mp h
  exact Nat.mod_lt _ (by decide)
theorem places_len {a s k : Nat} : (placesF a s k).length = k := by unfold placesF; rw [List.length_map, List.length_range]
theorem places_nd {a s k : Nat} (hk : k ≤ 120) (hs : s = 1 ∨ s = 7 ∨ s = 11 ∨ s = 13 ∨ s = 37 ∨ s = 119) : (placesF a s k).Nodup := by
  unfold placesF
  refine List.pairwise_map.mpr ?_
  refine List.Pairwise.imp_of_mem ?_ (List.pairwise_lt_range (n := k))
  intro i j hi hj hij e
  have hi := List.mem_range.mp hi
  have hj := List.mem_range.mp hj
  rcases hs with rfl | rfl | rfl | rfl | rfl | rfl <;> omega
def sp_law_places (K : PySem.W.Frag) : Sp := fun vs H Q _ => ∃ (d n : Addr) (m : Nat), vs = [.ref d, .int (m : Int)] ∧ m ≤ 120 ∧ Dr H d n ∧ RetG d n (fun v H' => ∃ (a : Addr) (ns : List Nat), v = .ref a ∧ a ≠ d ∧ a ≠ n ∧ H a = none ∧ H' a = some (.lst (cInts ns)) ∧ ns.length = m ∧ (∀ x, x ∈ ns → x < 120) ∧ ns.Nodup) H Q
theorem ok_law_places (T : Txt K mg) : FnOk P w K mg base CX0 3 T.a_law_places T.fd_law_places ["draws", "many"] (sp_law_places K) := by
  refine T.F_law_places.ok sc_law_places (fun vs H Q E h => ?_) (fun cdv A outer s H vs Q E hr h => ?_)
  · obtain ⟨d, n, m, rfl, _⟩ := h
    rfl
  · obtain ⟨d, n, m, rfl, hm, hD, q⟩ := h
    refine ⟨_, (pss_cons (ps_set (i := 2) sc_law_places.nd rfl (.inl rfl) (pe_lst pa_nil))
      (pss_cons (ps_set (i := 3) sc_law_places.nd rfl (.inl rfl) (pe_ix (r := rIxL K) ix_list (pe_lst (pa_cons pe_int (pa_cons pe_int (pa_cons pe_int (pa_cons pe_int (pa_cons pe_int (pa_cons pe_int pa_nil))))))) (pe_op op_mod (pe_call (ok_law_draw T) hr (by rfl) T.g_law_draw T.F_law_draw.kp T.b_law_draw .nil pass0 (pa_cons (pv 0) pa_nil)) pe_int) (fun _ _ => rfl)))
      (pss_cons (ps_set (i := 4) sc_law_places.nd rfl (.inl rfl) (pe_op op_mod (pe_call (ok_law_draw T) hr (by rfl) T.g_law_draw T.F_law_draw.kp T.b_law_draw .nil pass0 (pa_cons (pv 0) pa_nil)) pe_int))
      (pss_cons (ps_for PassesOwn.never rfl (pi_range1 (by rfl) T.m_range (pa_cons (pv 1) pa_nil)) (pg_name (i := 5) sc_law_places.nd rfl (Or.inl rfl))
      (pss_cons (ps_expr (pe_bm PySem.F.plainAttrs_list PySem.F.slot_list_append PySem.F.type_list_append mt_append (pv 2) (pa_cons (pv 4) pa_nil)))
      (pss_one (ps_set (i := 4) sc_law_places.nd rfl (.inl rfl) (pe_op op_mod (pe_op op_add (pv 4) (pv 3)) pe_int)))))
      (pss_one (ps_ret (pv 2))))))), ?_⟩
    walk_at "start"
    walk_at "x"
    refine ⟨by show 0 ≤ sizeLine; decide, fun p hp => ?_⟩
    have hD1 := hD.upd0 (o := .lst []) hp
    have hpd := hD.new hp
    have hpn := hD.newN hp
    have e1 : (upd H p (.lst [])) p = some (.lst []) := upd_same
    have k1 : Keep d H (upd H p (.lst [])) := Same.keep (same_upd hp)
    generalize upd H p (.lst []) = H1 at hD1 e1 k1
    walk_at "x"
    refine ⟨by show 6 ≤ sizeLine; decide, fun u hu => ?_⟩
    have s2 := same_upd (o := .lst [.int 1, .int 7, .int 11, .int 13, .int 37, .int 119]) hu
    have e2 : (upd H1 u (.lst [.int 1, .int 7, .int 11, .int 13, .int 37, .int 119])) u = _ := upd_same
    have e1 := s2 _ _ e1
    have hud := hD1.new hu
    have hD2 := hD1.same s2
    have k2 := k1.trans (Same.keep s2)
    generalize upd H1 u (.lst [.int 1, .int 7, .int 11, .int 13, .int 37, .int 119]) = H2 at s2 e2 e1 hD2 k2
    walk_at "x"
    refine ⟨d, n, rfl, hD2, ?_⟩
    rintro _ H3 ⟨y, rfl, y0, y1⟩ hD3 k3
    walk_at "x"
    obtain ⟨b, hv, hmm⟩ := at_lt (xs := [.int 1, .int 7, .int 11, .int 13, .int 37, .int 119]) (i := y % 6) (Int.emod_nonneg _ (by decide)) (Int.emod_lt_of_pos y (show (0 : Int) < 6 by decide))
    refine x_ixL (sq_of (k3 _ _ e2 hud)) hv ?_
    obtain ⟨s, rfl, hs⟩ : ∃ s : Nat, b = .int (s : Int) ∧ (s = 1 ∨ s = 7 ∨ s = 11 ∨ s = 13 ∨ s = 37 ∨ s = 119) := by
      simp only [List.mem_cons, List.not_mem_nil, or_false] at hmm
      rcases hmm with rfl | rfl | rfl | rfl | rfl | rfl
      · exact ⟨1, rfl, by decide⟩
      · exact ⟨7, rfl, by decide⟩
      · exact ⟨11, rfl, by decide⟩
      · exact ⟨13, rfl, by decide⟩
      · exact ⟨37, rfl, by decide⟩
      · exact ⟨119, rfl, by decide⟩
    have e3 := k3 _ _ e1 hpd
    have k3 := k2.trans k3
    walk_at "x"
    refine ⟨d, n, rfl, hD3, ?_⟩
    rintro _ H4 ⟨z, rfl, z0, z1⟩ hD4 k4
    have e4 := k4 _ _ e3 hpd
    have k4 := k3.trans k4
    walk_at "x"
    obtain ⟨a, ea, ha⟩ := cast_lt (x := z % 120) (c := 120) (Int.emod_nonneg z (by decide)) (Int.emod_lt_of_pos z (show (0 : Int) < 120 by decide))
    rw [ea]
    refine x_forR1 (m : Int) (fun k σ' H' => ∃ v5, σ' = [some (.ref d), some (.int (m : Int)), some (.ref p), some (.int (s : Int)), some (.int (((a + k * s) % 120 : Nat) : Int)), v5] ∧ Dr H' d n ∧ Keep d H H' ∧ H' p = some (.lst (cInts (placesF a s k)))) (fun R r => by walk_at "x"; exact r) (by omega) (by omega) ⟨_, by rw [Nat.zero_mul, Nat.add_zero, Nat.mod_eq_of_lt ha], hD4, k4, e4⟩ ?_ ?_
    · rintro k σ' H5 hk ⟨v5, rfl, hD5, k5, e5⟩
      walk_at "x"
      refine x_tyL e5 ?_
      walk_at "x"
      refine x_app e5 (by rw [cInts_len, places_len]; omega) ?_
      walk_at "x"
      have e6 : ((((a + k * s) % 120 : Nat) : Int) + (s : Int)) % 120 = (((a + (k + 1) * s) % 120 : Nat) : Int) := by
        rw [Nat.add_mul, Nat.one_mul]
        generalize k * s = t
        omega
      rw [e6]
      refine ⟨_, rfl, hD5.upd hpd hpn, kput k5 hp, ?_⟩
      rw [upd_same, places_snoc, cInts_snoc]
    · rintro σ' H5 ⟨v5, rfl, hD5, k5, e5⟩
      walk_at "x"
      exact q _ _ ⟨p, _, rfl, hpd, hpn, hp, e5, places_len, fun x hx => places_lt hx, places_nd (by omega) hs⟩ hD5 k5



def sp_law_equal (n : Nat) (K : PySem.W.Frag) : Sp := fun vs H Q _ => ∃ v u, vs = [v, u] ∧ Eqv K H n v u ∧ Q (.bl true) H
def sp_law_all_equal (n : Nat) (K : PySem.W.Frag) : Sp := fun vs H Q _ => ∃ (a b : Addr) (xs ys : List V), vs = [.ref a, .ref b] ∧ ((H a = some (.lst xs) ∧ H b = some (.lst ys)) ∨ (H a = some (.tup xs) ∧ H b = some (.tup ys))) ∧ xs.length = ys.length ∧ ys.length ≤ 100000 ∧ (∀ (i : Nat) x y, xs[i]? = some x → ys[i]? = some y → Eqv K H n x y) ∧ Q (.bl true) H
theorem x_ixQ {K : PySem.W.Frag} {H : Hp} {a b : Addr} {xs ys : List V} {i : Int} {v : V} {Q : VK} (h : (H a = some (.lst xs) ∧ H b = some (.lst ys)) ∨ (H a = some (.tup xs) ∧ H b = some (.tup ys))) (hi : atI xs i = some v) (q : Q v H) : rIx K (.ref a) (.int i) H Q := by
  rcases h with h | h
  · exact .inl (x_ixL (sq_of h.1) hi q)
  · exact .inr (.inl (x_ixT (st_of h.1) hi q))
theorem x_ixQ2 {K : PySem.W.Frag} {H : Hp} {a b : Addr} {xs ys : List V} {i : Int} {v : V} {Q : VK} (h : (H a = some (.lst xs) ∧ H b = some (.lst ys)) ∨ (H a = some (.tup xs) ∧ H b = some (.tup ys))) (hi : atI ys i = some v) (q : Q v H) : rIx K (.ref b) (.int i) H Q := by
  rcases h with h | h
  · exact .inl (x_ixL (sq_of h.2) hi q)
  · exact .inr (.inl (x_ixT (st_of h.2) hi q))
theorem all_equal_of (T : Txt K mg) (n : Nat) (G_law_equal : FnOk P w K mg base CX0 (2 * n + 1) T.a_law_equal T.fd_law_equal ["actual", "due"] (sp_law_equal n K)) : FnOk P w K mg base CX0 (2 * n + 2) T.a_law_all_equal T.fd_law_all_equal ["actual", "due"] (sp_law_all_equal n K) := by
  refine T.F_law_all_equal.ok sc_law_all_equal (fun vs H Q E h => ?_) (fun cdv A outer s H vs Q E hr h => ?_)
  · obtain ⟨a, b, xs, ys, rfl, _⟩ := h
    rfl
  · obtain ⟨a, b, xs, ys, rfl, hab, hl, hz, he, q⟩ := h
    refine ⟨_, (pss_cons (ps_for PassesOwn.never rfl (pi_range1 (by rfl) T.m_range (pa_cons (pe_callB (id := "len") (r := rLen K) cr_len (by rfl) T.m_len PySem.boot_len (pa_cons (pv 1) pa_nil)) pa_nil)) (pg_name (i := 2) sc_law_all_equal.nd rfl (Or.inl rfl))
      (pss_one (ps_if (pt_not (pt_val (pe_call G_law_equal (hr.mono (by omega)) (by rfl) T.g_law_equal T.F_law_equal.kp T.b_law_equal .nil pass0 (pa_cons (pe_ix (r := rIx K) ix_seq (pv 0) (pv 2) (fun _ _ => rfl)) (pa_cons (pe_ix (r := rIx K) ix_seq (pv 1) (pv 2) (fun _ _ => rfl)) pa_nil)))))
      (pss_one (ps_ret pe_bl))
      pss_nil)))
      (pss_one (ps_ret pe_bl))), ?_⟩
    walk_at "start"
    refine x_forR1 (ys.length : Int) (fun i σ' H' => H = H' ∧ ∃ v2, σ' = [some (.ref a), some (.ref b), v2]) (fun R r => by
      walk_at "x"
      rcases hab with h | h
      · refine x_len (sq_of h.2) ?_
        exact r
      · refine x_lenT (st_of h.2) ?_
        exact r) (by omega) (by omega) ⟨rfl, _, rfl⟩ ?_ ?_
    · rintro i σ' H' hi ⟨rfl, v2, rfl⟩
      obtain ⟨x, gx⟩ : ∃ x, xs[i]? = some x := ⟨_, List.getElem?_eq_getElem (by omega)⟩
      obtain ⟨y, gy⟩ : ∃ y, ys[i]? = some y := ⟨_, List.getElem?_eq_getElem (by omega)⟩
      walk_at "x"
      refine x_ixQ hab (atI_nat gx) ?_
      walk_at "x"
      refine x_ixQ2 hab (atI_nat gy) ?_
      walk_at "x"
      refine ⟨x, y, rfl, he i x y gx gy, ?_⟩
      walk_at "x"
      walk_at "f"
      exact ⟨rfl, _, rfl⟩
    · rintro σ' H' ⟨rfl, v2, rfl⟩
      walk_at "x"
      exact q
theorem ok_law_equal (T : Txt K mg) : ∀ n : Nat, FnOk P w K mg base CX0 (2 * n + 1) T.a_law_equal T.fd_law_equal ["actual", "due"] (sp_law_equal n K)
  | 0 => by
    refine T.F_law_equal.ok sc_law_equal (fun vs H Q E h => ?_) (fun cdv A outer s H vs Q E hr h => ?_)
    · obtain ⟨v, u, rfl, h, _⟩ := h
      exact h.elim
    · obtain ⟨v, u, rfl, h, _⟩ := h
      exact h.elim
  | n + 1 => by
    have G_law_all_equal := all_equal_of T n (ok_law_equal T n)
    refine T.F_law_equal.ok (k := 2 * n + 2) sc_law_equal (fun vs H Q E h => ?_) (fun cdv A outer s H vs Q E hr h => ?_)
    · obtain ⟨v, u, rfl, _⟩ := h
      rfl
    · obtain ⟨v, u, rfl, h, q⟩ := h
      refine ⟨_, (pss_cons (ps_if (pt_val (pe_callB (id := "isinstance") (r := rIsi K) call_isi (by rfl) T.m_isinstance (by decide +kernel) (pa_cons (pv 1) (pa_cons (pe_bltn (v := .ty "list") (by rfl) T.m_list (by decide +kernel) rfl) pa_nil))))
      (pss_cons (ps_if (PW.pt (pw_or (pt_not (pt_val (pe_callB (id := "isinstance") (r := rIsi K) call_isi (by rfl) T.m_isinstance (by decide +kernel) (pa_cons (pv 0) (pa_cons (pe_bltn (v := .ty "list") (by rfl) T.m_list (by decide +kernel) rfl) pa_nil))))) (pw_or1 (pt_cmpR op_ne (pe_callB (id := "len") (r := rLen K) cr_len (by rfl) T.m_len PySem.boot_len (pa_cons (pv 0) pa_nil)) (pe_callB (id := "len") (r := rLen K) cr_len (by rfl) T.m_len PySem.boot_len (pa_cons (pv 1) pa_nil)) (nomark _)))))
      (pss_one (ps_ret pe_bl))
      pss_nil)
      (pss_one (ps_ret (pe_call G_law_all_equal (hr.mono (by omega)) (by rfl) T.g_law_all_equal T.F_law_all_equal.kp T.b_law_all_equal .nil pass0 (pa_cons (pv 0) (pa_cons (pv 1) pa_nil))))))
      pss_nil)
      (pss_cons (ps_if (pt_val (pe_callB (id := "isinstance") (r := rIsi K) call_isi (by rfl) T.m_isinstance (by decide +kernel) (pa_cons (pv 1) (pa_cons (pe_bltn (v := .ty "tuple") (by rfl) T.m_tuple (by decide +kernel) rfl) pa_nil))))
      (pss_cons (ps_if (PW.pt (pw_or (pt_not (pt_val (pe_callB (id := "isinstance") (r := rIsi K) call_isi (by rfl) T.m_isinstance (by decide +kernel) (pa_cons (pv 0) (pa_cons (pe_bltn (v := .ty "tuple") (by rfl) T.m_tuple (by decide +kernel) rfl) pa_nil))))) (pw_or1 (pt_cmpR op_ne (pe_callB (id := "len") (r := rLen K) cr_len (by rfl) T.m_len PySem.boot_len (pa_cons (pv 0) pa_nil)) (pe_callB (id := "len") (r := rLen K) cr_len (by rfl) T.m_len PySem.boot_len (pa_cons (pv 1) pa_nil)) (nomark _)))))
      (pss_one (ps_ret pe_bl))
      pss_nil)
      (pss_one (ps_ret (pe_call G_law_all_equal (hr.mono (by omega)) (by rfl) T.g_law_all_equal T.F_law_all_equal.kp T.b_law_all_equal .nil pass0 (pa_cons (pv 0) (pa_cons (pv 1) pa_nil))))))
      pss_nil)
      (pss_cons (ps_if (pt_val (pe_callB (id := "isinstance") (r := rIsi K) call_isi (by rfl) T.m_isinstance (by decide +kernel) (pa_cons (pv 1) (pa_cons (pe_bltn (v := .ty "bool") (by rfl) T.m_bool (by decide +kernel) rfl) pa_nil))))
      (pss_one (ps_ret (pe_and (pe_callB (id := "isinstance") (r := rIsi K) call_isi (by rfl) T.m_isinstance (by decide +kernel) (pa_cons (pv 0) (pa_cons (pe_bltn (v := .ty "bool") (by rfl) T.m_bool (by decide +kernel) rfl) pa_nil))) (pe_one (pe_cmpR op_eq (pv 0) (pv 1) (nomark _))))))
      pss_nil)
      (pss_cons (ps_if (pt_val (pe_callB (id := "isinstance") (r := rIsi K) call_isi (by rfl) T.m_isinstance (by decide +kernel) (pa_cons (pv 1) (pa_cons (pe_bltn (v := .ty "int") (by rfl) T.m_int (by decide +kernel) rfl) pa_nil))))
      (pss_one (ps_ret (pe_and (pe_callB (id := "isinstance") (r := rIsi K) call_isi (by rfl) T.m_isinstance (by decide +kernel) (pa_cons (pv 0) (pa_cons (pe_bltn (v := .ty "int") (by rfl) T.m_int (by decide +kernel) rfl) pa_nil))) (pe_and (pe_not (pe_callB (id := "isinstance") (r := rIsi K) call_isi (by rfl) T.m_isinstance (by decide +kernel) (pa_cons (pv 0) (pa_cons (pe_bltn (v := .ty "bool") (by rfl) T.m_bool (by decide +kernel) rfl) pa_nil)))) (pe_one (pe_cmpR op_eq (pv 0) (pv 1) (nomark _)))))))
      pss_nil)
      (pss_cons (ps_if (pt_val (pe_callB (id := "isinstance") (r := rIsi K) call_isi (by rfl) T.m_isinstance (by decide +kernel) (pa_cons (pv 1) (pa_cons (pe_bltn (v := .ty "str") (by rfl) T.m_str (by decide +kernel) rfl) pa_nil))))
      (pss_one (ps_ret (pe_and (pe_callB (id := "isinstance") (r := rIsi K) call_isi (by rfl) T.m_isinstance (by decide +kernel) (pa_cons (pv 0) (pa_cons (pe_bltn (v := .ty "str") (by rfl) T.m_str (by decide +kernel) rfl) pa_nil))) (pe_one (pe_cmpR op_eq (pv 0) (pv 1) (nomark _))))))
      pss_nil)
      (pss_one (ps_ret (pe_cmpR op_isN1 (pv 0) pe_non (nomark _))))))))), ?_⟩
      walk_at "start"
      rcases h with ⟨i, rfl, rfl⟩ | ⟨z, rfl, rfl⟩ | ⟨z, rfl, rfl⟩ | ⟨rfl, rfl⟩ | ⟨a, b, xs, ys, rfl, rfl, hab, hl, hz, he⟩
      · walk_at "x"
        walk_at "is"
        walk_at "f"
        walk_at "is"
        walk_at "f"
        walk_at "is"
        walk_at "f"
        walk_at "is"
        walk_at "t"
        walk_at "is"
        walk_at "t"
        walk_at "is"
        walk_at "t"
        rw [decide_eq_true rfl]
        exact q
      · walk_at "x"
        walk_at "is"
        walk_at "f"
        walk_at "is"
        walk_at "f"
        walk_at "is"
        walk_at "f"
        walk_at "is"
        walk_at "f"
        walk_at "is"
        walk_at "t"
        walk_at "is"
        walk_at "t"
        refine x_Eq rfl ?_
        rw [decide_eq_true rfl]
        exact q
      · walk_at "x"
        walk_at "is"
        walk_at "f"
        walk_at "is"
        walk_at "f"
        walk_at "is"
        walk_at "t"
        walk_at "is"
        walk_at "t"
        rw [decide_eq_true rfl]
        exact q
      · walk_at "x"
        walk_at "is"
        walk_at "f"
        walk_at "is"
        walk_at "f"
        walk_at "is"
        walk_at "f"
        walk_at "is"
        walk_at "f"
        walk_at "is"
        walk_at "f"
        rw [decide_eq_true rfl]
        exact q
      · rcases id hab with ⟨h1, h2⟩ | ⟨h1, h2⟩
        · walk_at "x"
          walk_at "is"
          walk_at "t"
          walk_at "is"
          walk_at "f"
          refine x_len (sq_of h1) ?_
          walk_at "x"
          refine x_len (sq_of h2) ?_
          walk_at "x"
          rw [hl, decide_eq_true rfl]
          walk_at "f"
          exact ⟨a, b, xs, ys, rfl, hab, hl, hz, he, q⟩
        · walk_at "x"
          walk_at "is"
          walk_at "f"
          walk_at "is"
          walk_at "t"
          walk_at "is"
          walk_at "f"
          refine x_lenT (st_of h1) ?_
          walk_at "x"
          refine x_lenT (st_of h2) ?_
          walk_at "x"
          rw [hl, decide_eq_true rfl]
          walk_at "f"
          exact ⟨a, b, xs, ys, rfl, hab, hl, hz, he, q⟩


end
end Br
namespace Br
open PySem PySem.Spec PyProof.Rows L2
local macro_rules | `(tactic| walk_at "x1") => `(tactic| (with_reducible first
  | refine Br.x_seq ?_ | refine Br.x_set ?_ | refine Br.x_asg ?_ | refine Br.x_next ?_ | refine Br.x_ret ?_ | refine Br.x_retN ?_ | refine Br.x_drop ?_ | refine Br.x_if ?_ | refine Br.x_brk ?_ | refine Br.x_cont ?_
  | refine Br.x_c ?_ | refine Br.x_op ?_ | refine Br.x_un ?_ | refine Br.x_I0 ?_ | refine Br.x_U ?_ | refine Br.x_EqI ?_ | refine Br.x_NeI ?_ | refine Br.x_EqB ?_ | refine Br.x_iN ?_ | refine Br.x_int1 ?_ | refine Br.x_min2 ?_ | refine Br.x_max2 ?_ | refine Br.x_nN ?_ | refine Br.x_ifE ?_
  | refine Br.x_test (b := ()) ?_ | refine Br.x_tB ?_ | refine Br.x_bl ?_ | refine Br.x_and ?_ | refine Br.x_or ?_ | refine Br.x_not ?_ | refine Br.x_andV ?_ | refine Br.x_orV ?_ | refine Br.x_notV ?_ | refine Br.x_blP ?_
  | refine Br.x_nil ?_ | refine Br.x_cons ?_ | refine Br.x_call ?_ | refine Br.x_CB ?_ | refine Br.x_BM ?_ | refine Br.x_tup ?_ | refine Br.x_lst ?_ | refine Br.x_chain ?_ | refine Br.x_par ?_ | refine Br.x_gSub ?_ | refine Br.x_gName ?_ | refine Br.x_fld ?_ | refine Br.x_fldS ?_ | refine Br.x_match ?_ | refine Br.x_else ?_ | refine Br.x_noCase ?_))
local macro_rules | `(tactic| walk_at "xv") => `(tactic| ((with_reducible refine' Br.x_var ?hvar ?_); (case hvar => rfl)))
local macro_rules | `(tactic| walk_at "xd") => `(tactic| (dsimp only [List.set_cons_zero, List.set_cons_succ, List.cons_append, List.nil_append, List.append_nil]))
local macro_rules | `(tactic| walk_at "xi") => `(tactic| ((with_reducible refine Br.x_I ?hside ?_); (case hside => first | exact Br.mul_r (by decide) (by decide) | exact Br.mul_l (by decide) (by decide) | exact Br.mul_l (by omega) (by omega) | exact Br.mul_r (by omega) (by omega) | (show (0 : Int) < _; first | decide | omega) | exact ⟨by decide, by decide⟩ | exact ⟨by omega, by omega⟩ | exact ⟨by decide, by decide, by decide⟩)))
local macro_rules | `(tactic| walk_at "x") => `(tactic| (repeat (first | walk_at "x1" | walk_at "xv" | walk_at "xi" | walk_at "xd")))
local macro_rules | `(tactic| walk_at "start") => `(tactic| (simp only [L2.start, List.map_cons, List.map_nil, List.length_cons, List.length_nil, Nat.reduceAdd, Nat.reduceSub, List.replicate, List.cons_append, List.nil_append, List.append_nil]))
local macro_rules | `(tactic| walk_at "isi") => `(tactic| first
  | refine Br.x_isi (b := true) (.base (.int _)) (by decide +kernel) ?_ | refine Br.x_isi (b := false) (.base (.int _)) (by decide +kernel) ?_
  | refine Br.x_isi (b := true) (.base (.bl _)) (by decide +kernel) ?_ | refine Br.x_isi (b := false) (.base (.bl _)) (by decide +kernel) ?_
  | refine Br.x_isi (b := false) (.base .non) (by decide +kernel) ?_
  | refine Br.x_isi (b := true) (.base (.str _)) (by decide +kernel) ?_ | refine Br.x_isi (b := false) (.base (.str _)) (by decide +kernel) ?_
  | refine Br.x_isi (b := true) (.base (.tup (by assumption))) (by decide +kernel) ?_ | refine Br.x_isi (b := false) (.base (.tup (by assumption))) (by decide +kernel) ?_
  | refine Br.x_isi (b := true) (.base (.lst (by assumption))) (by decide +kernel) ?_ | refine Br.x_isi (b := false) (.base (.lst (by assumption))) (by decide +kernel) ?_)
local macro_rules | `(tactic| walk_at "f") => `(tactic| (refine L2.iteF ?_; walk_at "x"))
local macro_rules | `(tactic| walk_at "t") => `(tactic| (refine L2.iteT ?_; walk_at "x"))
local macro_rules | `(tactic| walk_at "is") => `(tactic| (walk_at "isi"; walk_at "x"))
local macro_rules | `(tactic| walk_at "xb") => `(tactic| (simp only [Br.bindS, List.set_cons_zero, List.set_cons_succ]; walk_at "x"))

section
variable {P : Program} {w : World} {K : PySem.W.Frag} {mg : Str → Option Value} {base : Heap}

open Br
theorem x_forPreL {σ : L2.St} {H : Hp} {D : Ends} {ta : TE} {g : TG} {tb : TS} (h : ta σ H fun v H1 => tFor (iList K (tC v)) g tb D σ H1) : tFor (iList K ta) g tb D σ H := h
theorem inV_int {z : Int} : ∀ {ms : List Int}, inV (.int z) (ms.map V.int) = decide (z ∈ ms)
  | [] => rfl
  | m :: ms => by
    show (eqV (.int m) (.int z) || inV (.int z) (ms.map V.int)) = decide (z ∈ m :: ms)
    rw [inV_int (ms := ms)]
    have : eqV (.int m) (.int z) = decide (z = m) := by
      show decide (m = z) = decide (z = m)
      exact decide_eq_decide.mpr eq_comm
    rw [this, ← Bool.decide_or]
    exact decide_eq_decide.mpr List.mem_cons.symm
theorem flat_ints : ∀ {ms : List Int}, (ms.map V.int).all flatV = true
  | [] => rfl
  | m :: ms => by show (true && (ms.map V.int).all flatV) = true; rw [flat_ints (ms := ms)]; rfl
theorem inV_nat {z : Nat} {ms : List Nat} : inV (.int (z : Int)) (cInts ms) = decide (z ∈ ms) := by
  rw [cInts_eq, inV_int]
  refine decide_eq_decide.mpr ?_
  rw [List.mem_map]
  exact ⟨fun ⟨c, hc, e⟩ => by have : c = z := by omega
                              rw [← this]; exact hc, fun h => ⟨_, h, rfl⟩⟩
theorem flat_nats {ms : List Nat} : (cInts ms).all flatV = true := by rw [cInts_eq]; exact flat_ints

def sp_law_is_list (K : PySem.W.Frag) : Sp := fun vs H Q _ => ∃ (ga pl : Addr) (as : List Addr) (gs : List Gt) (ps U : List Nat), vs = [.ref ga, .int (gs.length : Int), .ref pl] ∧ H ga = some (.lst (as.map V.ref)) ∧ GtsAt H as gs ∧ H pl = some (.lst (cInts ps)) ∧ (∀ x, x ∈ U → x ∈ ps) ∧ (∀ g, g ∈ gs → TwoOk U g) ∧ ∀ H', Same H H' → Q (.bl true) H'
theorem ok_law_is_list (T : Txt K mg) : FnOk P w K mg base CX0 1 T.a_law_is_list T.fd_law_is_list ["gates", "many", "used"] (sp_law_is_list K) := by
  refine T.F_law_is_list.ok sc_law_is_list (fun vs H Q E h => ?_) (fun cdv A outer s H vs Q E hr h => ?_)
  · obtain ⟨ga, pl, as, gs, ps, U, rfl, _⟩ := h
    rfl
  · obtain ⟨ga, pl, as, gs, ps, U, rfl, hga, hG, hpl, hU, hok, q⟩ := h
    have hal : (as.map V.ref).length = gs.length := by rw [List.length_map, hG.1]
    refine ⟨_, (pss_cons (ps_if (PW.pt (pw_or (pt_not (pt_val (pe_callB (id := "isinstance") (r := rIsi K) call_isi (by rfl) T.m_isinstance (by decide +kernel) (pa_cons (pv 0) (pa_cons (pe_bltn (v := .ty "list") (by rfl) T.m_list (by decide +kernel) rfl) pa_nil))))) (pw_or1 (pt_cmpR op_ne (pe_callB (id := "len") (r := rLen K) cr_len (by rfl) T.m_len PySem.boot_len (pa_cons (pv 0) pa_nil)) (pv 1) (nomark _)))))
      (pss_one (ps_ret pe_bl))
      pss_nil)
      (pss_cons (ps_for PassesOwn.never rfl (pi_list (pv 0)) (pg_name (i := 3) sc_law_is_list.nd rfl (Or.inl rfl))
      (pss_cons (ps_if (PW.pt (pw_or (pt_not (pt_val (pe_callB (id := "isinstance") (r := rIsi K) call_isi (by rfl) T.m_isinstance (by decide +kernel) (pa_cons (pv 3) (pa_cons (pe_bltn (v := .ty "tuple") (by rfl) T.m_tuple (by decide +kernel) rfl) pa_nil))))) (pw_or (pt_cmpR op_ne (pe_callB (id := "len") (r := rLen K) cr_len (by rfl) T.m_len PySem.boot_len (pa_cons (pv 3) pa_nil)) pe_int (nomark _)) (pw_or (pt_not (pt_val (pe_callB (id := "isinstance") (r := rIsi K) call_isi (by rfl) T.m_isinstance (by decide +kernel) (pa_cons (pe_ix (r := rIxT K) ix_tup (pv 3) pe_int (fun _ _ => rfl)) (pa_cons (pe_bltn (v := .ty "tuple") (by rfl) T.m_tuple (by decide +kernel) rfl) pa_nil))))) (pw_or1 (pt_cmpR op_ne (pe_callB (id := "len") (r := rLen K) cr_len (by rfl) T.m_len PySem.boot_len (pa_cons (pe_ix (r := rIxT K) ix_tup (pv 3) pe_int (fun _ _ => rfl)) pa_nil)) pe_int (nomark _)))))))
      (pss_one (ps_ret pe_bl))
      pss_nil)
      (pss_cons (ps_for PassesOwn.never rfl (pi_list (pe_lst (pa_cons (pe_ix (r := rIxT K) ix_tup (pv 3) pe_int (fun _ _ => rfl)) (pa_cons (pe_ix (r := rIxT K) ix_tup (pe_ix (r := rIxT K) ix_tup (pv 3) pe_int (fun _ _ => rfl)) pe_int (fun _ _ => rfl)) (pa_cons (pe_ix (r := rIxT K) ix_tup (pe_ix (r := rIxT K) ix_tup (pv 3) pe_int (fun _ _ => rfl)) pe_int (fun _ _ => rfl)) pa_nil))))) (pg_name (i := 4) sc_law_is_list.nd rfl (Or.inl rfl))
      (pss_one (ps_if (PW.pt (pw_or (pt_not (pt_val (pe_callB (id := "isinstance") (r := rIsi K) call_isi (by rfl) T.m_isinstance (by decide +kernel) (pa_cons (pv 4) (pa_cons (pe_bltn (v := .ty "int") (by rfl) T.m_int (by decide +kernel) rfl) pa_nil))))) (pw_or (pt_val (pe_callB (id := "isinstance") (r := rIsi K) call_isi (by rfl) T.m_isinstance (by decide +kernel) (pa_cons (pv 4) (pa_cons (pe_bltn (v := .ty "bool") (by rfl) T.m_bool (by decide +kernel) rfl) pa_nil)))) (pw_or1 (pt_cmpR (r := rIn K true) op_notIn_seq (pv 4) (pv 2) (by with_unfolding_all rfl))))))
      (pss_one (ps_ret pe_bl))
      pss_nil)))
      (pss_one (ps_if (PW.pt (pw_or (pt_cmpR op_ge (pe_ix (r := rIxT K) ix_tup (pe_ix (r := rIxT K) ix_tup (pv 3) pe_int (fun _ _ => rfl)) pe_int (fun _ _ => rfl)) (pe_ix (r := rIxT K) ix_tup (pe_ix (r := rIxT K) ix_tup (pv 3) pe_int (fun _ _ => rfl)) pe_int (fun _ _ => rfl)) (nomark _)) (pw_or1 (pt_cmpR (r := rIn K false) op_in_seq (pe_ix (r := rIxT K) ix_tup (pv 3) pe_int (fun _ _ => rfl)) (pe_ix (r := rIxT K) ix_tup (pv 3) pe_int (fun _ _ => rfl)) (by with_unfolding_all rfl)))))
      (pss_one (ps_ret pe_bl))
      pss_nil)))))
      (pss_one (ps_ret pe_bl)))), ?_⟩
    walk_at "start"
    walk_at "x"
    walk_at "is"
    walk_at "f"
    refine x_len (sq_of hga) ?_
    rw [hal]
    walk_at "x"
    rw [decide_eq_true rfl]
    walk_at "f"
    refine x_forL (p := ga) (as.map V.ref) (fun k σ' H' => Same H H' ∧ ∃ v3 v4, σ' = [some (.ref ga), some (.int (gs.length : Int)), some (.ref pl), v3, v4]) (fun R r => by walk_at "x"; exact r) (sq_of hga) ⟨Same.refl _, _, _, rfl⟩ (fun k σ' H' _ z => sq_of (z.1 _ _ hga)) ?_ ?_
    · rintro k x σ' H1 hx ⟨s1, v3, v4, rfl⟩
      obtain ⟨a, ha, rfl⟩ := map_getR hx
      obtain ⟨⟨t, cs⟩, hg, c, h1, h2⟩ := hG.get ha
      obtain ⟨p, r, e, hpr, htp, htr, htU, hpU, hrU⟩ := (hok _ (List.mem_of_getElem? hg)).ex
      have e : cs = [p, r] := e
      subst e
      have h1 := s1 _ _ h1
      have h2 : H1 c = some (.tup (cInts [p, r])) := s1 _ _ h2
      have h1 : H1 a = some (.tup [.int (t : Int), .ref c]) := h1
      have htp : t ≠ p := htp
      have htr : t ≠ r := htr
      have htU : t ∈ U := htU
      have hpl1 := s1 _ _ hpl
      walk_at "x"
      walk_at "is"
      walk_at "f"
      refine x_lenT (st_of h1) ?_
      walk_at "x"
      walk_at "f"
      refine x_ixT (v := .ref c) (st_of h1) (atI_nat (j := 1) rfl) ?_
      walk_at "x"
      walk_at "is"
      walk_at "f"
      refine x_ixT (v := .ref c) (st_of h1) (atI_nat (j := 1) rfl) ?_
      walk_at "x"
      refine x_lenT (st_of h2) ?_
      walk_at "x"
      walk_at "f"
      refine x_forPreL ?_
      walk_at "x"
      refine x_ixT (v := .int (t : Int)) (st_of h1) (atI_nat (j := 0) rfl) ?_
      walk_at "x"
      refine x_ixT (v := .ref c) (st_of h1) (atI_nat (j := 1) rfl) ?_
      walk_at "x"
      refine x_ixT (v := .int (p : Int)) (st_of h2) (atI_nat (j := 0) rfl) ?_
      walk_at "x"
      refine x_ixT (v := .ref c) (st_of h1) (atI_nat (j := 1) rfl) ?_
      walk_at "x"
      refine x_ixT (v := .int (r : Int)) (st_of h2) (atI_nat (j := 1) rfl) ?_
      walk_at "x"
      refine ⟨by show 3 ≤ sizeLine; decide, fun l hl => ?_⟩
      have s2 := same_upd (o := .lst [V.int (t : Int), V.int (p : Int), V.int (r : Int)]) hl
      have e2 : (upd H1 l (.lst [V.int (t : Int), V.int (p : Int), V.int (r : Int)])) l = some (.lst (cInts [t, p, r])) := upd_same
      generalize upd H1 l (.lst [V.int (t : Int), V.int (p : Int), V.int (r : Int)]) = H2 at s2 e2
      refine x_forL (p := l) (cInts [t, p, r]) (fun k σ' H' => H2 = H' ∧ ∃ v4, σ' = [some (.ref ga), some (.int (gs.length : Int)), some (.ref pl), some (.ref a), v4]) (fun R r => by walk_at "x"; exact r) (sq_of e2) ⟨rfl, _, rfl⟩ (fun k σ' H' _ z => by rw [← z.1]; exact sq_of e2) ?_ ?_
      · rintro j x σ' H3 hx ⟨rfl, v4, rfl⟩
        obtain ⟨z, hz, rfl⟩ := cInts_get hx
        have hzU : z ∈ ps := by
          refine hU _ ?_
          have := List.mem_of_getElem? hz
          simp only [List.mem_cons, List.not_mem_nil, or_false] at this
          rcases this with rfl | rfl | rfl
          · exact htU
          · exact hpU
          · exact hrU
        walk_at "x"
        walk_at "is"
        walk_at "f"
        walk_at "is"
        walk_at "f"
        refine ⟨pl, _, rfl, .inl (sq_of (s2 _ _ hpl1)), rfl, flat_nats, ?_⟩
        rw [if_pos rfl, inV_nat, decide_eq_true hzU]
        walk_at "x"
        walk_at "f"
        exact ⟨rfl, _, rfl⟩
      · rintro σ' H3 ⟨rfl, v4, rfl⟩
        have h1 := s2 _ _ h1
        have h2 := s2 _ _ h2
        walk_at "x"
        refine x_ixT (v := .ref c) (st_of h1) (atI_nat (j := 1) rfl) ?_
        walk_at "x"
        refine x_ixT (v := .int (p : Int)) (st_of h2) (atI_nat (j := 0) rfl) ?_
        walk_at "x"
        refine x_ixT (v := .ref c) (st_of h1) (atI_nat (j := 1) rfl) ?_
        walk_at "x"
        refine x_ixT (v := .int (r : Int)) (st_of h2) (atI_nat (j := 1) rfl) ?_
        walk_at "x"
        refine x_ite (fun hc => absurd hc (by omega)) (fun _ => ?_)
        walk_at "x"
        refine x_ixT (v := .int (t : Int)) (st_of h1) (atI_nat (j := 0) rfl) ?_
        walk_at "x"
        refine x_ixT (v := .ref c) (st_of h1) (atI_nat (j := 1) rfl) ?_
        refine ⟨c, _, rfl, .inr (st_of h2), rfl, flat_nats, ?_⟩
        rw [if_neg (by decide), inV_nat, decide_eq_false (by simp [htp, htr])]
        walk_at "x"
        walk_at "f"
        exact ⟨s1.trans s2, _, _, rfl⟩
    · rintro σ' H1 ⟨s1, v3, v4, rfl⟩
      walk_at "x"
      exact q H1 s1


def sp_law_contents (K : PySem.W.Frag) : Sp := fun vs H Q _ => ∃ (d n ca : Addr) (cs : List Nat), vs = [.ref d, .ref ca] ∧ H ca = some (.tup (cInts cs)) ∧ (∀ c, c ∈ cs → c < 120) ∧ 0 < cs.length ∧ Dr H d n ∧ RetG d n (fun v H' => ∃ (a : Addr) (bs : List Bool), v = .ref a ∧ a ≠ d ∧ H' a = some (.lst (bls bs)) ∧ bs.length = 120) H Q
theorem ok_law_contents (T : Txt K mg) : FnOk P w K mg base CX0 3 T.a_law_contents T.fd_law_contents ["draws", "controls"] (sp_law_contents K) := by
  refine T.F_law_contents.ok sc_law_contents (fun vs H Q E h => ?_) (fun cdv A outer s H vs Q E hr h => ?_)
  · obtain ⟨d, n, ca, cs, rfl, _⟩ := h
    rfl
  · obtain ⟨d, n, ca, cs, rfl, hca, hc, hc0, hD, q⟩ := h
    refine ⟨_, (pss_cons (ps_set (i := 2) sc_law_contents.nd rfl (.inl rfl) (pe_lst pa_nil))
      (pss_cons (ps_for PassesOwn.never rfl (pi_range1 (by rfl) T.m_range (pa_cons pe_int pa_nil)) (pg_name (i := 3) sc_law_contents.nd rfl (Or.inl rfl))
      (pss_cons (ps_set (i := 4) sc_law_contents.nd rfl (.inl rfl) (pe_op op_add (pe_call (ok_law_draw T) hr (by rfl) T.g_law_draw T.F_law_draw.kp T.b_law_draw .nil pass0 (pa_cons (pv 0) pa_nil)) (pe_op op_mul pe_int (pe_call (ok_law_draw T) hr (by rfl) T.g_law_draw T.F_law_draw.kp T.b_law_draw .nil pass0 (pa_cons (pv 0) pa_nil)))))
      (pss_one (ps_for PassesOwn.never rfl (pi_range1 (by rfl) T.m_range (pa_cons pe_int pa_nil)) (pg_name (i := 5) sc_law_contents.nd rfl (Or.inl rfl))
      (pss_one (ps_expr (pe_bm PySem.F.plainAttrs_list PySem.F.slot_list_append PySem.F.type_list_append mt_append (pv 2) (pa_cons (pe_cmpR op_eq (pe_op op_mod (pe_op op_fdivN (pv 4) (pe_op op_shl pe_int (pe_op op_add (pe_op op_mul pe_int (pv 5)) (pe_op op_mod (pv 3) pe_int)))) pe_int) pe_int (nomark _)) pa_nil))))))))
      (pss_cons (ps_set (i := 6) sc_law_contents.nd rfl (.inl rfl) (pe_op op_mod (pe_call (ok_law_draw T) hr (by rfl) T.g_law_draw T.F_law_draw.kp T.b_law_draw .nil pass0 (pa_cons (pv 0) pa_nil)) pe_int))
      (Evl.pss_cut (ps_if (pt_cmpR op_lt (pv 6) pe_int (nomark _))
      (pss_one (ps_for PassesOwn.never rfl (pi_tup (pv 1)) (pg_name (i := 7) sc_law_contents.nd rfl (Or.inl rfl))
      (pss_one (ps_asg pe_bl (pg_sub (pv 2) (pv 7) set_list)))))
      pss_nil)
      (pss_cons (ps_if (pt_cmpR op_eq (pv 6) pe_int (nomark _))
      (pss_one (ps_asg pe_bl (pg_sub (pv 2) (pe_ix (r := rIxT K) ix_tup (pv 1) (pe_op op_mod (pe_call (ok_law_draw T) hr (by rfl) T.g_law_draw T.F_law_draw.kp T.b_law_draw .nil pass0 (pa_cons (pv 0) pa_nil)) (pe_callB (id := "len") (r := rLen K) cr_len (by rfl) T.m_len PySem.boot_len (pa_cons (pv 1) pa_nil))) (fun _ _ => rfl)) set_list)))
      pss_nil)
      (pss_one (ps_ret (pv 2)))))))), ?_⟩
    walk_at "start"
    walk_at "x"
    refine ⟨by show 0 ≤ sizeLine; decide, fun p hp => ?_⟩
    have hD1 := hD.upd0 (o := .lst []) hp
    have hpd := hD.new hp
    have hpn := hD.newN hp
    have e1 : (upd H p (.lst [])) p = some (.lst (bls [])) := upd_same
    have k1 : Keep d H (upd H p (.lst [])) := Same.keep (same_upd hp)
    generalize upd H p (.lst []) = H1 at hD1 e1 k1
    walk_at "x"
    refine x_forR1 12 (fun k σ' H' => Dr H' d n ∧ Keep d H H' ∧ ∃ (bs : List Bool) (v3 v4 v5 v6 v7 : Option V), σ' = [some (.ref d), some (.ref ca), some (.ref p), v3, v4, v5, v6, v7] ∧ H' p = some (.lst (bls bs)) ∧ bs.length = 10 * k) (fun R r => r) (by decide) (by decide) ⟨hD1, k1, [], _, _, _, _, _, rfl, e1, rfl⟩ ?_ ?_
    · rintro k σ' H2 hk ⟨hD2, k2, bs, v3, v4, v5, v6, v7, rfl, e2, hbl⟩
      walk_at "x"
      refine ⟨d, n, rfl, hD2, ?_⟩
      rintro _ H3 ⟨z, rfl, z0, z1⟩ hD3 k3
      have e3 := k3 _ _ e2 hpd
      have k3 := k2.trans k3
      walk_at "x"
      refine ⟨d, n, rfl, hD3, ?_⟩
      rintro _ H4 ⟨y, rfl, y0, y1⟩ hD4 k4
      have e4 := k4 _ _ e3 hpd
      have k4 := k3.trans k4
      walk_at "x"
      refine x_forR1 10 (fun j σ' H' => Dr H' d n ∧ Keep d H H' ∧ ∃ (bs : List Bool) (v5 v6 v7 : Option V), σ' = [some (.ref d), some (.ref ca), some (.ref p), some (.int (k : Int)), some (.int (z + 1000000 * y)), v5, v6, v7] ∧ H' p = some (.lst (bls bs)) ∧ bs.length = 10 * k + j) (fun R r => r) (by decide) (by decide) ⟨hD4, k4, bs, _, _, _, rfl, e4, hbl⟩ ?_ ?_
      · rintro j σ' H5 hj ⟨hD5, k5, bs, v5, v6, v7, rfl, e5, hbl⟩
        walk_at "x"
        refine x_tyL e5 ?_
        walk_at "x"
        obtain ⟨sh, es, hs⟩ : ∃ sh : Nat, 3 * (j : Int) + (k : Int) % 3 = (sh : Int) ∧ sh ≤ 29 := ⟨(3 * (j : Int) + (k : Int) % 3).toNat, by omega, by omega⟩
        rw [es]
        have hpw : (1 : Int) * 2 ^ ((sh : Int)).toNat = ((2 ^ sh : Nat) : Int) := by rw [Int.one_mul]; push_cast; rfl
        have hp0 : 0 < 2 ^ sh := Nat.pow_pos (by decide)
        have hp1 : 2 ^ sh ≤ 2 ^ 29 := Nat.pow_le_pow_right (by decide) hs
        rw [hpw]
        refine x_I ⟨by omega, by omega⟩ ?_
        walk_at "x"
        refine x_app e5 (by rw [bls_len]; omega) ?_
        walk_at "x"
        exact ⟨hD5.upd hpd hpn, kput k5 hp, bs ++ [_], _, _, _, rfl, by rw [upd_same, bls_snoc], by rw [List.length_append, hbl]; rfl⟩
      · rintro σ' H5 ⟨hD5, k5, bs, v5, v6, v7, rfl, e5, hbl⟩
        exact ⟨hD5, k5, bs, _, _, _, _, _, rfl, e5, by rw [hbl]; rfl⟩
    · rintro σ' H2 ⟨hD2, k2, bs, v3, v4, v5, v6, v7, rfl, e2, hbl⟩
      have hbl : bs.length = 120 := hbl
      walk_at "x"
      refine ⟨d, n, rfl, hD2, ?_⟩
      rintro _ H3 ⟨z, rfl, z0, z1⟩ hD3 k3
      have e3 := k3 _ _ e2 hpd
      have k3 := k2.trans k3
      have hca3 := keep_tupsG k3 hD _ _ hca
      walk_at "x"
      refine x_cut (fun σ' H' => ∃ (bs : List Bool) (v7 : Option V), [some (V.ref d), some (.ref ca), some (.ref p), v3, v4, v5, some (.int (z % 3)), v7] = σ' ∧ Dr H' d n ∧ Keep d H H' ∧ H' p = some (.lst (bls bs)) ∧ bs.length = 120) ?_ ?_
      · walk_at "x"
        refine x_ite (fun h0 => ?_) (fun h0 => ?_)
        · refine x_forI (J := Itt K ca) (n := (cInts cs).length) (G := fun H => SqT K H ca (cInts cs)) (fun R r => ⟨_, rfl, ca, rfl, ⟨_, st_of hca3⟩, r⟩) walk_tup (fun k σ' H' => ∃ (bs : List Bool) (v7 : Option V), σ' = [some (V.ref d), some (.ref ca), some (.ref p), v3, v4, v5, some (.int (z % 3)), v7] ∧ Dr H' d n ∧ Keep d H H' ∧ H' p = some (.lst (bls bs)) ∧ bs.length = 120 ∧ H' ca = some (.tup (cInts cs))) ⟨bs, _, rfl, hD3, k3, e3, hbl, hca3⟩ (fun k σ' H' _ zz => by obtain ⟨_, _, _, _, _, _, _, h⟩ := zz; exact st_of h) ?_ ?_
          · rintro k x σ' H4 H4' hk ⟨bs, v7, rfl, hD4, k4, e4, hbl, hca4⟩ ⟨rfl, hx⟩
            obtain ⟨c, hcc, rfl⟩ := cInts_get hx
            have hc12 := hc c (List.mem_of_getElem? hcc)
            walk_at "x"
            refine x_subL (k := c) e4 (by rw [bls_len]; exact ixN_nat (by omega)) ?_
            walk_at "x"
            exact ⟨bs.set c true, _, rfl, hD4.upd hpd hpn, kput k4 hp, by rw [upd_same, bls_set], by rw [List.length_set]; exact hbl, by rw [upd_ne (ne_of hca4 e4 (by intro z; cases z))]; exact hca4⟩
          · rintro σ' H4 ⟨bs, v7, rfl, hD4, k4, e4, hbl, hca4⟩
            walk_at "x"
            exact ⟨bs, _, rfl, hD4, k4, e4, hbl⟩
        · walk_at "x"
          exact ⟨bs, _, rfl, hD3, k3, e3, hbl⟩
      clear e3 hbl hD3 k3 hca3
      rintro _ H4 ⟨bs, v7, rfl, hD4, k4, e4, hbl⟩
      have hca4 := keep_tupsG k4 hD _ _ hca
      walk_at "x"
      refine x_ite (fun h1 => ?_) (fun h1 => ?_)
      · walk_at "x"
        refine ⟨d, n, rfl, hD4, ?_⟩
        rintro _ H5 ⟨y, rfl, y0, y1⟩ hD5 k5
        have e5 := k5 _ _ e4 hpd
        have hca5 := keep_tupsG k5 hD4 _ _ hca4
        have k5 := k4.trans k5
        walk_at "x"
        refine x_lenT (st_of hca5) ?_
        rw [cInts_len]
        walk_at "x"
        obtain ⟨at0, ea, ha⟩ := cast_lt (x := y % (cs.length : Int)) (c := cs.length) (Int.emod_nonneg y (by omega)) (Int.emod_lt_of_pos y (by omega))
        rw [ea]
        refine x_ixT (st_of hca5) (atI_nat (cInts_at2 ha)) ?_
        have hc12 := hc _ (getD_mem2 ha)
        generalize cs.getD at0 0 = c at hc12
        refine x_subL (k := c) e5 (by rw [bls_len]; exact ixN_nat (by omega)) ?_
        walk_at "x"
        exact q _ _ ⟨p, bs.set c false, rfl, hpd, by rw [upd_same, bls_set], by rw [List.length_set]; exact hbl⟩ (hD5.upd hpd hpn) (kput k5 hp)
      · walk_at "x"
        exact q _ _ ⟨p, bs, rfl, hpd, e4, hbl⟩ hD4 k4

theorem sorted_nats {ns : List Nat} {ms : List Int} (hp : ms.Perm (ns.map fun (c : Nat) => (c : Int))) : ∃ cs : List Nat, ms = cs.map (fun (c : Nat) => (c : Int)) ∧ cs.Perm ns := by
  have h0 : ∀ m, m ∈ ms → ∃ c : Nat, m = (c : Int) := fun m hm => by
    obtain ⟨c, _, rfl⟩ := List.mem_map.mp (hp.mem_iff.mp hm)
    exact ⟨c, rfl⟩
  have h1 : ∀ ms : List Int, (∀ m, m ∈ ms → ∃ c : Nat, m = (c : Int)) → ∃ cs : List Nat, ms = cs.map (fun (c : Nat) => (c : Int)) := by
    intro ms
    induction ms with
    | nil => intro _; exact ⟨[], rfl⟩
    | cons m ms ih =>
      intro h
      obtain ⟨c, rfl⟩ := h m List.mem_cons_self
      obtain ⟨cs, rfl⟩ := ih fun x hx => h x (List.mem_cons_of_mem _ hx)
      exact ⟨c :: cs, rfl⟩
  obtain ⟨cs, rfl⟩ := h1 ms h0
  refine ⟨cs, rfl, ?_⟩
  have := hp.map Int.toNat
  rw [List.map_map, List.map_map] at this
  have e : ∀ l : List Nat, l.map (Int.toNat ∘ fun (c : Nat) => (c : Int)) = l := fun l => by
    have : (Int.toNat ∘ fun (c : Nat) => (c : Int)) = id := funext fun c => rfl
    rw [this, List.map_id]
  rw [e, e] at this
  exact this
theorem natsD_inj {a b : List Nat} (h : natsD a = natsD b) : a = b := (List.map_inj_right (fun _ _ z => Int.ofNat.inj (PyData.int.inj z))).mp h
theorem spread_call {CG d ca ba : Addr} {H : Hp} {Q : VK} {t : Nat} {cs bs : List Nat} (hca : H ca = some (.tup (cInts cs))) (hba : H ba = some (.lst (cInts bs))) (hbd : ba ≠ d) (ok : GtOk 120 (t, cs)) (hl : bs.length = cs.length - 2) (hb : ∀ b, b ∈ bs → b < 120) (hn : (t :: cs ++ bs).Nodup)
    (q : ∀ l as H', H l = none → Same H H' → H' l = some (.lst (as.map V.ref)) → GtsAt H' as (spreadF t cs bs) → Q (.ref l) H') : sp_spread CG K [.int (t : Int), .ref ca, .ref ba] H Q E0 :=
  ⟨d, _, _, _, .int (t : Int), .tuple (natsD cs), .list (natsD bs), rfl, .int _, .tup hca cInts_at, .lst hbd hba cInts_at, fun h => absurd ⟨t, cs, bs, rfl, rfl, rfl, ok, hl, hb, hn⟩ h, fun t' cs' bs' e1 e2 e3 _ _ _ _ => by
    obtain rfl : t = t' := by have := PyData.int.inj e1; omega
    obtain rfl := natsD_inj (PyData.tuple.inj e2)
    obtain rfl := natsD_inj (PyData.list.inj e3)
    exact q⟩
def sp_law (K : PySem.W.Frag) : Sp := fun vs H Q _ => ∃ (a : Addr) (ns : List Int), vs = [.ref a] ∧ SqL K H a (ns.map V.int) ∧ ns.length ≤ 63 ∧ ∀ H', Q (.bl true) H'
theorem ok_law (T : Txt K mg) : FnOk P w K mg base CX0 10 T.a_law T.fd_law ["script"] (sp_law K) := by
  refine T.F_law.ok sc_law (fun vs H Q E h => ?_) (fun cdv A outer s H vs Q E hr h => ?_)
  · obtain ⟨a, ns, rfl, _⟩ := h
    rfl
  · obtain ⟨a, ns, rfl, hS, hl, q⟩ := h
    refine ⟨_, (pss_cons (ps_set (i := 1) sc_law.nd rfl (.inl rfl) (pe_lst (pa_cons (pe_call (ok_law_numbers T) (hr.mono (by decide)) (by rfl) T.g_law_numbers T.F_law_numbers.kp T.b_law_numbers .nil pass0 (pa_cons (pv 0) pa_nil)) (pa_cons pe_int pa_nil))))
      (pss_cons (ps_set (i := 2) sc_law.nd rfl (.inl rfl) (pe_op op_add pe_int (pe_op op_mod (pe_call (ok_law_draw T) (hr.mono (by decide)) (by rfl) T.g_law_draw T.F_law_draw.kp T.b_law_draw .nil pass0 (pa_cons (pv 1) pa_nil)) pe_int)))
      (Evl.pss_cut (ps_if (pt_cmpR op_eq (pe_op op_mod (pe_call (ok_law_draw T) (hr.mono (by decide)) (by rfl) T.g_law_draw T.F_law_draw.kp T.b_law_draw .nil pass0 (pa_cons (pv 1) pa_nil)) pe_int) pe_int (nomark _))
      (pss_one (ps_set (i := 2) sc_law.nd rfl (.inl rfl) (pe_op op_add pe_int (pe_op op_mod (pe_call (ok_law_draw T) (hr.mono (by decide)) (by rfl) T.g_law_draw T.F_law_draw.kp T.b_law_draw .nil pass0 (pa_cons (pv 1) pa_nil)) pe_int))))
      pss_nil)
      (pss_cons (ps_set (i := 3) sc_law.nd rfl (.inl rfl) (pe_call (ok_law_places T) (hr.mono (by decide)) (by rfl) T.g_law_places T.F_law_places.kp T.b_law_places .nil pass0 (pa_cons (pv 1) (pa_cons (pe_op op_sub (pe_op op_mul pe_int (pv 2)) pe_int) pa_nil))))
      (pss_cons (ps_set (i := 4) sc_law.nd rfl (.inl rfl) (pe_ix (r := rIxL K) ix_list (pv 3) pe_int (fun _ _ => rfl)))
      (pss_cons (ps_set (i := 5) sc_law.nd rfl (.inl rfl) (pe_callTy (T := "tuple") (r := rTupOf K) cr_tup_of (by rfl) T.m_tuple (by decide +kernel) (pa_cons (pe_callB (id := "sorted") (r := rSorted K) cr_sorted (by rfl) T.m_sorted (by decide +kernel) (pa_cons (pe_slice (r := rSlL K) sl_list (pv 3) (po_some pe_int) (po_some (pe_op op_add (pv 2) pe_int))) pa_nil)) pa_nil)))
      (pss_cons (ps_set (i := 6) sc_law.nd rfl (.inl rfl) (pe_slice (r := rSlL K) sl_list (pv 3) (po_some (pe_op op_add (pv 2) pe_int)) po_none))
      (pss_cons (ps_set (i := 7) sc_law.nd rfl (.inl rfl) (pe_callTy (T := "list") (r := rListOf K) cr_list_of (by rfl) T.m_list (by decide +kernel) (pa_cons (pv 6) pa_nil)))
      (pss_cons (ps_set (i := 8) sc_law.nd rfl (.inl rfl) (pe_call (ok_spread T) (hr.mono (by decide)) (by rfl) T.g_spread T.F_spread.kp T.b_spread .nil passL (pa_cons (pv 4) (pa_cons (pv 5) (pa_cons (pv 7) pa_nil)))))
      (pss_cons (ps_if (PW.pt (pw_or (pt_not (pt_val (pe_call (ok_law_equal T 4) hr (by rfl) T.g_law_equal T.F_law_equal.kp T.b_law_equal .nil pass0 (pa_cons (pv 7) (pa_cons (pv 6) pa_nil))))) (pw_or1 (pt_not (pt_val (pe_call (ok_law_is_list T) (hr.mono (by decide)) (by rfl) T.g_law_is_list T.F_law_is_list.kp T.b_law_is_list .nil pass0 (pa_cons (pv 8) (pa_cons (pe_op op_mul pe_int (pe_op op_sub (pv 2) pe_int)) (pa_cons (pv 3) pa_nil)))))))))
      (pss_one (ps_ret pe_bl))
      pss_nil)
      (pss_cons (ps_for PassesOwn.never rfl (pi_range1 (by rfl) T.m_range (pa_cons pe_int pa_nil)) (pg_name (i := 9) sc_law.nd rfl (Or.inl rfl))
      (pss_cons (ps_set (i := 10) sc_law.nd rfl (.inl rfl) (pe_call (ok_law_contents T) (hr.mono (by decide)) (by rfl) T.g_law_contents T.F_law_contents.kp T.b_law_contents .nil pass0 (pa_cons (pv 1) (pa_cons (pv 5) pa_nil))))
      (pss_cons (ps_set (i := 11) sc_law.nd rfl (.inl rfl) (pe_call (ok_law_perform T) (hr.mono (by decide)) (by rfl) T.g_law_perform T.F_law_perform.kp T.b_law_perform .nil pass0 (pa_cons (pe_lst (pa_cons (pe_tup (pa_cons (pv 4) (pa_cons (pv 5) pa_nil))) pa_nil)) (pa_cons (pv 10) pa_nil))))
      (pss_one (ps_if (pt_not (pt_val (pe_call (ok_law_equal T 4) hr (by rfl) T.g_law_equal T.F_law_equal.kp T.b_law_equal .nil pass0 (pa_cons (pe_call (ok_law_perform T) (hr.mono (by decide)) (by rfl) T.g_law_perform T.F_law_perform.kp T.b_law_perform .nil pass0 (pa_cons (pv 8) (pa_cons (pv 10) pa_nil))) (pa_cons (pv 11) pa_nil)))))
      (pss_one (ps_ret pe_bl))
      pss_nil)))))
      (pss_one (ps_ret pe_bl))))))))))))), ?_⟩
    walk_at "start"
    walk_at "x"
    refine ⟨a, ns, rfl, hS, hl, fun nn ms H1 hn1 hs1 hn2 hr hlen => ?_⟩
    walk_at "x"
    refine ⟨by show 2 ≤ sizeLine; decide, fun d hd => ?_⟩
    have hD := Dr.mk hn2 hr hlen hd
    generalize upd H1 d (.lst [.ref nn, .int 0]) = H2 at hD
    clear hn1 hs1 hn2 hr hlen hd hS hl
    walk_at "x"
    refine ⟨d, nn, rfl, hD, ?_⟩
    rintro _ H3 ⟨z, rfl, z0, z1⟩ hD3 hk3
    clear hD hk3 H2
    walk_at "x"
    refine x_cut (fun σ' H' => ∃ m : Nat, [some (V.ref a), some (.ref d), some (.int (m : Int)), none, none, none, none, none, none, none, none, none] = σ' ∧ 3 ≤ m ∧ m ≤ 60 ∧ Dr H' d nn) ?_ ?_
    · walk_at "x"
      refine ⟨d, nn, rfl, hD3, ?_⟩
      rintro _ H4 ⟨y, rfl, y0, y1⟩ hD4 hk4
      walk_at "x"
      refine x_ite (fun h0 => ?_) (fun h0 => ?_)
      · walk_at "x"
        refine ⟨d, nn, rfl, hD4, ?_⟩
        rintro _ H5 ⟨w, rfl, w0, w1⟩ hD5 hk5
        walk_at "x"
        exact ⟨(13 + w % 48).toNat, by rw [show (((13 + w % 48).toNat : Nat) : Int) = 13 + w % 48 by omega], by omega, by omega, hD5⟩
      · walk_at "x"
        exact ⟨(3 + z % 10).toNat, by rw [show (((3 + z % 10).toNat : Nat) : Int) = 3 + z % 10 by omega], by omega, by omega, hD4⟩
    rintro _ H4 ⟨m, rfl, m3, m60, hD4⟩
    clear hD3 z0 z1 z H3
    walk_at "x"
    rw [show (2 : Int) * (m : Int) - 1 = ((2 * m - 1 : Nat) : Int) by omega]
    refine ⟨d, nn, _, rfl, by omega, hD4, ?_⟩
    rintro _ H5 ⟨pl, ps, rfl, hpd, hpn, _, hpl, hpsl, hps12, hpsn⟩ hD5 hk5
    clear hD4 hk5
    walk_at "x"
    have hpc : (cInts ps).length = 2 * m - 1 := by rw [cInts_len, hpsl]
    refine x_ixL (i := ((0 : Nat) : Int)) (sq_of hpl) (atI_nat (cInts_at2 (by omega))) ?_
    walk_at "x"
    refine x_sl2 ?_
    walk_at "x"
    refine x_part1 ?_
    walk_at "x"
    refine ⟨_, rfl, x_part1 ?_⟩
    walk_at "x"
    refine ⟨_, rfl, x_cutL (sq_of hpl) fun c1 hc1 => ?_⟩
    have ec1 : cutV (cInts ps) (some 1) (some ((m : Int) + 1)) = cInts ((ps.drop 1).take m) := by
      unfold cutV
      rw [show (1 : Int) = ((1 : Nat) : Int) from rfl, show (m : Int) + ((1 : Nat) : Int) = ((m + 1 : Nat) : Int) from rfl, HT.sIx_nat, HT.sIx_nat, hpc, Nat.min_eq_left (by omega), Nat.min_eq_left (by omega)]
      unfold cInts
      rw [← List.map_drop, ← List.map_take]
      rfl
    rw [ec1]
    have s5 := same_upd (o := .lst (cInts ((ps.drop 1).take m))) hc1
    have e5 : (upd H5 c1 (.lst (cInts ((ps.drop 1).take m)))) c1 = _ := upd_same
    generalize upd H5 c1 (.lst (cInts ((ps.drop 1).take m))) = H6 at s5 e5
    rw [cInts_eq] at e5
    walk_at "x"
    refine ⟨c1, _, rfl, sq_of e5, by rw [List.length_map, List.length_take]; omega, fun ms2 cl hperm hasc hcl => ?_⟩
    obtain ⟨cs, rfl, hcp⟩ := sorted_nats hperm
    have hcsl : cs.length = m := by rw [hcp.length_eq, List.length_take, List.length_drop]; omega
    have hcasc : cs.Pairwise (· ≤ ·) := (List.pairwise_map.mp hasc).imp fun h => by omega
    rw [← cInts_eq]
    have s6 := s5.trans (same_upd (o := .lst (cInts cs)) hcl)
    have e6 : (upd H6 cl (.lst (cInts cs))) cl = _ := upd_same
    generalize upd H6 cl (.lst (cInts cs)) = H7 at s6 e6
    walk_at "x"
    refine x_tupL (sq_of e6) fun ct hct => ?_
    have s7 := s6.trans (same_upd (o := .tup (cInts cs)) hct)
    have e7 : (upd H7 ct (.tup (cInts cs))) ct = _ := upd_same
    generalize upd H7 ct (.tup (cInts cs)) = H8 at s7 e7
    clear hperm hasc e5 hc1 ec1 s5 hcl s6 e6 hct
    have hpl8 := s7 _ _ hpl
    walk_at "x"
    refine x_sl2 ?_
    walk_at "x"
    refine x_part1 ?_
    walk_at "x"
    refine ⟨_, rfl, x_part0 (x_cutL (sq_of hpl8) fun bl hbl => ?_)⟩
    rw [show (m : Int) + 1 = ((m + 1 : Nat) : Int) from rfl, cutV_from (by omega)]
    have ebd : (cInts ps).drop (m + 1) = cInts (ps.drop (m + 1)) := by unfold cInts; rw [List.map_drop]
    rw [ebd]
    have hbsl : (ps.drop (m + 1)).length = m - 2 := by rw [List.length_drop]; omega
    have s8 := s7.trans (same_upd (o := .lst (cInts (ps.drop (m + 1)))) hbl)
    have e8 : (upd H8 bl (.lst (cInts (ps.drop (m + 1))))) bl = _ := upd_same
    have hbld : bl ≠ d := (hD5.same s7).new hbl
    have e7 := same_upd (o := .lst (cInts (ps.drop (m + 1)))) hbl _ _ e7
    generalize upd H8 bl (.lst (cInts (ps.drop (m + 1)))) = H9 at s8 e8 e7
    -- all of them are different
    have hps : ps = ps.getD 0 0 :: ((ps.drop 1).take m ++ ps.drop (m + 1)) := by
      have e1 : ps.drop 1 = (ps.drop 1).take m ++ ps.drop (m + 1) := by
        have := (List.take_append_drop m (ps.drop 1)).symm
        rw [List.drop_drop] at this
        rw [Nat.add_comm 1 m] at this
        exact this
      rw [← e1]
      cases ps with
      | nil => simp at hpsl; omega
      | cons x xs => rfl
    have hnd : (ps.getD 0 0 :: cs ++ ps.drop (m + 1)).Nodup := by
      have h1 := hpsn
      rw [hps] at h1
      have hp2 : (ps.getD 0 0 :: cs ++ ps.drop (m + 1)).Perm (ps.getD 0 0 :: ((ps.drop 1).take m ++ ps.drop (m + 1))) := List.Perm.cons _ (hcp.append_right _)
      exact hp2.nodup_iff.mpr h1
    have hmem : ∀ x, x ∈ ps.getD 0 0 :: cs ++ ps.drop (m + 1) → x ∈ ps := fun x hx => by
      rw [hps]
      have hp2 : (ps.getD 0 0 :: cs ++ ps.drop (m + 1)).Perm (ps.getD 0 0 :: ((ps.drop 1).take m ++ ps.drop (m + 1))) := List.Perm.cons _ (hcp.append_right _)
      exact hp2.mem_iff.mp hx
    clear hps hcp ebd hbl s7
    have hplA := s8 _ _ hpl
    have hD9 := hD5.same s8
    clear hpl hpl8 s8 hD5
    generalize ps.drop (m + 1) = bs at e8 hbsl hnd hmem e7
    generalize ps.getD 0 0 = t at hnd hmem
    have h12 : ∀ x, x ∈ t :: cs ++ bs → x < 120 := fun x hx => hps12 x (hmem x hx)
    have hndc : cs.Nodup := (List.nodup_cons.mp (List.nodup_append.mp hnd).1).2
    have hup : cs.Pairwise (· < ·) := (hcasc.and hndc).imp fun h => Nat.lt_of_le_of_ne h.1 h.2
    have ok : GtOk 120 (t, cs) := ⟨h12 t (by simp), fun c hc => h12 c (by simp [show c ∈ cs from hc]), (List.nodup_cons.mp (List.nodup_append.mp hnd).1).1, hup⟩
    walk_at "x"
    refine x_listL (sq_of e8) fun gv hgv => ?_
    have sA := same_upd (o := .lst (cInts bs)) hgv
    have eA : (upd H9 gv (.lst (cInts bs))) gv = _ := upd_same
    have hgvd : gv ≠ d := hD9.new hgv
    have hDA := hD9.same sA
    have hplA := sA _ _ hplA
    have hctA := sA _ _ e7
    have hblA := sA _ _ e8
    generalize upd H9 gv (.lst (cInts bs)) = HA at sA eA hDA hplA hctA hblA
    clear e7 e8 sA hgv hD9
    walk_at "x"
    refine spread_call hctA eA hgvd ok (by omega) (fun b hb => h12 b (by simp [hb])) hnd fun l as HB hl sB hlB hGB => ?_
    have hld : l ≠ d := hDA.new hl
    obtain ⟨hgsl, htwo⟩ := spread_two (t := t) (cs := cs) (bs := bs) (by omega) (by omega) hup hnd
    have hsok := fun bits hb => spread_ok (t := t) (cs := cs) (bs := bs) (bits := bits) (by omega) hnd hb
    generalize spreadF t cs bs = gs at hGB hgsl htwo hsok
    have hDB := hDA.same sB
    have hplB := sB _ _ hplA
    have hctB := sB _ _ hctA
    walk_at "x"
    refine ⟨_, _, rfl, Eqv.ints (n := 2) (by rw [← cInts_eq]; exact sB _ _ eA) (by rw [← cInts_eq]; exact sB _ _ hblA) (by rw [List.length_map]; omega), ?_⟩
    walk_at "x"
    walk_at "f"
    refine ⟨l, pl, as, gs, ps, t :: cs ++ bs, by rw [hgsl, hcsl, show (4 : Int) * ((m : Int) - 2) = ((4 * (m - 2) : Nat) : Int) by omega], hlB, hGB, hplB, hmem, htwo, fun HC sC => ?_⟩
    have hDC := hDB.same sC
    have hctC := sC _ _ hctB
    have hlC := sC _ _ hlB
    have hGC := hGB.tups fun b xs e => sC _ _ e
    clear hDB hctB hlB hGB hplB sB hDA hplA hctA hblA eA hl
    walk_at "x"
    walk_at "f"
    refine x_forR1 12 (fun k σ' H' => Dr H' d nn ∧ H' ct = some (.tup (cInts cs)) ∧ H' l = some (.lst (as.map V.ref)) ∧ GtsAt H' as gs ∧ ∃ (v9 v10 v11 : Option V), σ' = [some (.ref a), some (.ref d), some (.int (m : Int)), some (.ref pl), some (.int (t : Int)), some (.ref ct), some (.ref bl), some (.ref gv), some (.ref l), v9, v10, v11]) (fun R r => r) (by decide) (by decide) ⟨hDC, hctC, hlC, hGC, _, _, _, rfl⟩ ?_ ?_
    · rintro k σ' HD hk ⟨hDD, hctD, hlD, hGD, v9, v10, v11, rfl⟩
      walk_at "x"
      refine ⟨d, nn, ct, cs, rfl, hctD, fun c hc => h12 c (by simp [hc]), by omega, hDD, ?_⟩
      rintro _ HE ⟨bo, bits, rfl, hbod, hbo, hbl⟩ hDE kE
      have hctE := keep_tupsG kE hDD _ _ hctD
      have hlE := kE _ _ hlD hld
      have hGE := hGD.tups (keep_tupsG kE hDD)
      walk_at "x"
      refine ⟨by show 2 ≤ sizeLine; decide, fun r1 hr1 => ?_⟩
      have sF := same_upd (o := .tup [.int (t : Int), .ref ct]) hr1
      have eF : (upd HE r1 (.tup [.int (t : Int), .ref ct])) r1 = _ := upd_same
      generalize upd HE r1 (.tup [.int (t : Int), .ref ct]) = HF at sF eF
      walk_at "x"
      refine ⟨by show 1 ≤ sizeLine; decide, fun r2 hr2 => ?_⟩
      have sG := same_upd (o := .lst [.ref r1]) hr2
      have eG := sG _ _ eF
      have eG2 : (upd HF r2 (.lst [.ref r1])) r2 = some (.lst ([r1].map V.ref)) := upd_same
      have sG := sF.trans sG
      generalize upd HF r2 (.lst [.ref r1]) = HG at sG eG eG2
      walk_at "x"
      refine ⟨r2, bo, [r1], [(t, cs)], bits, rfl, eG2, .one ⟨ct, eG, sG _ _ hctE⟩, fun g hg => by rw [List.mem_singleton.mp hg]; exact ok.mono (by omega), by omega, sG _ _ hbo, fun du HH hdu sH hduH => ?_⟩
      have sH := sG.trans sH
      walk_at "x"
      refine ⟨l, bo, as, gs, bits, rfl, sH _ _ hlE, hGE.tups fun b xs e => sH _ _ e, fun g hg => (htwo g hg).gt fun x hx => by rw [hbl]; exact h12 x hx, by omega, sH _ _ hbo, fun r3 HI hr3 sI hr3I => ?_⟩
      rw [hsok bits fun x hx => by rw [hbl]; exact h12 x hx] at hr3I
      have sI := sH.trans sI
      walk_at "x"
      refine ⟨_, _, rfl, Eqv.bls (n := 2) hr3I (by rename_i sI0; exact sI0 _ _ hduH) (by show (perfG bits (t, cs)).length ≤ 100000; rw [perfG_len]; omega), ?_⟩
      walk_at "x"
      walk_at "f"
      exact ⟨hDE.same sI, sI _ _ hctE, sI _ _ hlE, hGE.tups (fun b xs e => sI _ _ e), _, _, _, rfl⟩
    · rintro σ' HD ⟨_, _, _, _, v9, v10, v11, rfl⟩
      walk_at "x"
      exact q HD
theorem all_mk {l : PySem.W.OpenLaw} {w : World} {K : PySem.W.Frag} {h : Heap} {mg : Str → Option Value} {fa : Addr} (X : K.In h) (G : h.Ns mainGlobals mg) (hfa : mg "law" = some (.ref fa))
    {f0 : Addr} {od0 an0 : Option Addr} {sl0 : Array (Option Value)} {oc0 kV0 dc0 pm0 cd0 ct0 : Value}
    {f1 : Addr} {od1 an1 : Option Addr} {sl1 : Array (Option Value)} {oc1 kV1 dc1 pm1 cd1 ct1 : Value}
    {f2 : Addr} {od2 an2 : Option Addr} {sl2 : Array (Option Value)} {oc2 kV2 dc2 pm2 cd2 ct2 : Value}
    {f3 : Addr} {od3 an3 : Option Addr} {sl3 : Array (Option Value)} {oc3 kV3 dc3 pm3 cd3 ct3 : Value}
    {f4 : Addr} {od4 an4 : Option Addr} {sl4 : Array (Option Value)} {oc4 kV4 dc4 pm4 cd4 ct4 : Value}
    {f5 : Addr} {od5 an5 : Option Addr} {sl5 : Array (Option Value)} {oc5 kV5 dc5 pm5 cd5 ct5 : Value}
    {f6 : Addr} {od6 an6 : Option Addr} {sl6 : Array (Option Value)} {oc6 kV6 dc6 pm6 cd6 ct6 : Value}
    {f7 : Addr} {od7 an7 : Option Addr} {sl7 : Array (Option Value)} {oc7 kV7 dc7 pm7 cd7 ct7 : Value}
    {f8 : Addr} {od8 an8 : Option Addr} {sl8 : Array (Option Value)} {oc8 kV8 dc8 pm8 cd8 ct8 : Value}
    {f9 : Addr} {od9 an9 : Option Addr} {sl9 : Array (Option Value)} {oc9 kV9 dc9 pm9 cd9 ct9 : Value}
    {f10 : Addr} {od10 an10 : Option Addr} {sl10 : Array (Option Value)} {oc10 kV10 dc10 pm10 cd10 ct10 : Value}
    {f11 : Addr} {od11 an11 : Option Addr} {sl11 : Array (Option Value)} {oc11 kV11 dc11 pm11 cd11 ct11 : Value}
    {f12 : Addr} {od12 an12 : Option Addr} {sl12 : Array (Option Value)} {oc12 kV12 dc12 pm12 cd12 ct12 : Value}
    {f13 : Addr} {od13 an13 : Option Addr} {sl13 : Array (Option Value)} {oc13 kV13 dc13 pm13 cd13 ct13 : Value}
    {f14 : Addr} {od14 an14 : Option Addr} {sl14 : Array (Option Value)} {oc14 kV14 dc14 pm14 cd14 ct14 : Value}
    {f15 : Addr} {od15 an15 : Option Addr} {sl15 : Array (Option Value)} {oc15 kV15 dc15 pm15 cd15 ct15 : Value}
    {f16 : Addr} {od16 an16 : Option Addr} {sl16 : Array (Option Value)} {oc16 kV16 dc16 pm16 cd16 ct16 : Value}
    {E_BrimfulError : Addr}
    {E_BadGate : Addr}
    {t_MOST_BITS : Tok}
    (hnE : PySem.W.specialIn K (.builtin "object.__class__") "__get__" = some (some (.builtin "getset_descriptor.__get__"))) (htE : PySem.W.takesIn K (.builtin "object.__class__") = some true)
    (aE_BrimfulError : PySem.W.nsIn K mainGlobals "BrimfulError" = some (some (.ref E_BrimfulError))) (xE_BrimfulError : PySem.W.excIn K E_BrimfulError [.type "ValueError", .type "Exception", .type "BaseException", .type "object"] "ValueError.__new__" = true) (kE_BrimfulError : PySem.W.keepIn K (.ref E_BrimfulError) = true)
    (bE_BrimfulError : PySem.W.subIn K (.ref E_BrimfulError) (.type "BaseException") = some true) (tE_BrimfulError : PySem.W.typeIn K (.ref E_BrimfulError) = some (.type "type")) (dE_BrimfulError : PySem.W.hasDictIn K E_BrimfulError = true)
    (h1E_BrimfulError : PySem.W.findIn K (.ref E_BrimfulError) "__getattribute__" = some (some (.builtin "BaseException.__getattribute__"))) (h2E_BrimfulError : PySem.W.findIn K (.ref E_BrimfulError) "__getattr__" = some none) (h3E_BrimfulError : PySem.W.findIn K (.ref E_BrimfulError) "__class__" = some (some (.builtin "object.__class__"))) (h4E_BrimfulError : PySem.W.mroIn K E_BrimfulError (.type "object") = some true)
    (aE_BadGate : PySem.W.nsIn K mainGlobals "BadGate" = some (some (.ref E_BadGate))) (xE_BadGate : PySem.W.excIn K E_BadGate [.type "ValueError", .type "Exception", .type "BaseException", .type "object"] "ValueError.__new__" = true) (kE_BadGate : PySem.W.keepIn K (.ref E_BadGate) = true)
    (bE_BadGate : PySem.W.subIn K (.ref E_BadGate) (.type "BaseException") = some true) (tE_BadGate : PySem.W.typeIn K (.ref E_BadGate) = some (.type "type")) (dE_BadGate : PySem.W.hasDictIn K E_BadGate = true)
    (h1E_BadGate : PySem.W.findIn K (.ref E_BadGate) "__getattribute__" = some (some (.builtin "BaseException.__getattribute__"))) (h2E_BadGate : PySem.W.findIn K (.ref E_BadGate) "__getattr__" = some none) (h3E_BadGate : PySem.W.findIn K (.ref E_BadGate) "__class__" = some (some (.builtin "object.__class__"))) (h4E_BadGate : PySem.W.mroIn K E_BadGate (.type "object") = some true)
    (sE_BrimfulError_BrimfulError : PySem.W.subIn K (.ref E_BrimfulError) (.ref E_BrimfulError) = some true)
    (sE_BrimfulError_BadGate : PySem.W.subIn K (.ref E_BrimfulError) (.ref E_BadGate) = some false)
    (sE_BadGate_BrimfulError : PySem.W.subIn K (.ref E_BadGate) (.ref E_BrimfulError) = some true)
    (sE_BadGate_BadGate : PySem.W.subIn K (.ref E_BadGate) (.ref E_BadGate) = some true)
    (a0 : PySem.W.nsIn K mainGlobals "is_below" = some (some (.ref f0)))
    (l0 : K.lookup f0 = some ⟨oc0, od0, .func (PySem.W.fnOf "is_below" "is_below" (defArgs s_is_below) (defBody s_is_below) (defScope s_is_below) .none kV0 dc0 pm0 an0 cd0 ct0), sl0⟩)
    (c0 : PySem.W.codeIn K cd0 "is_below" = true) (k0 : PySem.W.keepIn K (.ref f0) = true)
    (a1 : PySem.W.nsIn K mainGlobals "_is_gate" = some (some (.ref f1)))
    (l1 : K.lookup f1 = some ⟨oc1, od1, .func (PySem.W.fnOf "_is_gate" "_is_gate" (defArgs s_is_gate) (defBody s_is_gate) (defScope s_is_gate) .none kV1 dc1 pm1 an1 cd1 ct1), sl1⟩)
    (c1 : PySem.W.codeIn K cd1 "_is_gate" = true) (k1 : PySem.W.keepIn K (.ref f1) = true)
    (a2 : PySem.W.nsIn K mainGlobals "_is_bit" = some (some (.ref f2)))
    (l2 : K.lookup f2 = some ⟨oc2, od2, .func (PySem.W.fnOf "_is_bit" "_is_bit" (defArgs s_is_bit) (defBody s_is_bit) (defScope s_is_bit) .none kV2 dc2 pm2 an2 cd2 ct2), sl2⟩)
    (c2 : PySem.W.codeIn K cd2 "_is_bit" = true) (k2 : PySem.W.keepIn K (.ref f2) = true)
    (a3 : PySem.W.nsIn K mainGlobals "_are_rising" = some (some (.ref f3)))
    (l3 : K.lookup f3 = some ⟨oc3, od3, .func (PySem.W.fnOf "_are_rising" "_are_rising" (defArgs s_are_rising) (defBody s_are_rising) (defScope s_are_rising) .none kV3 dc3 pm3 an3 cd3 ct3), sl3⟩)
    (c3 : PySem.W.codeIn K cd3 "_are_rising" = true) (k3 : PySem.W.keepIn K (.ref f3) = true)
    (a4 : PySem.W.nsIn K mainGlobals "spread" = some (some (.ref f4)))
    (l4 : K.lookup f4 = some ⟨oc4, od4, .func (PySem.W.fnOf "spread" "spread" (defArgs s_spread) (defBody s_spread) (defScope s_spread) .none kV4 dc4 pm4 an4 cd4 ct4), sl4⟩)
    (c4 : PySem.W.codeIn K cd4 "spread" = true) (k4 : PySem.W.keepIn K (.ref f4) = true)
    (a5 : PySem.W.nsIn K mainGlobals "_are_borrowed" = some (some (.ref f5)))
    (l5 : K.lookup f5 = some ⟨oc5, od5, .func (PySem.W.fnOf "_are_borrowed" "_are_borrowed" (defArgs s_are_borrowed) (defBody s_are_borrowed) (defScope s_are_borrowed) .none kV5 dc5 pm5 an5 cd5 ct5), sl5⟩)
    (c5 : PySem.W.codeIn K cd5 "_are_borrowed" = true) (k5 : PySem.W.keepIn K (.ref f5) = true)
    (a6 : PySem.W.nsIn K mainGlobals "_gate_of_two" = some (some (.ref f6)))
    (l6 : K.lookup f6 = some ⟨oc6, od6, .func (PySem.W.fnOf "_gate_of_two" "_gate_of_two" (defArgs s_gate_of_two) (defBody s_gate_of_two) (defScope s_gate_of_two) .none kV6 dc6 pm6 an6 cd6 ct6), sl6⟩)
    (c6 : PySem.W.codeIn K cd6 "_gate_of_two" = true) (k6 : PySem.W.keepIn K (.ref f6) = true)
    (a7 : PySem.W.nsIn K mainGlobals "_law_mixed" = some (some (.ref f7)))
    (l7 : K.lookup f7 = some ⟨oc7, od7, .func (PySem.W.fnOf "_law_mixed" "_law_mixed" (defArgs s_law_mixed) (defBody s_law_mixed) (defScope s_law_mixed) .none kV7 dc7 pm7 an7 cd7 ct7), sl7⟩)
    (c7 : PySem.W.codeIn K cd7 "_law_mixed" = true) (k7 : PySem.W.keepIn K (.ref f7) = true)
    (a8 : PySem.W.nsIn K mainGlobals "_law_numbers" = some (some (.ref f8)))
    (l8 : K.lookup f8 = some ⟨oc8, od8, .func (PySem.W.fnOf "_law_numbers" "_law_numbers" (defArgs s_law_numbers) (defBody s_law_numbers) (defScope s_law_numbers) .none kV8 dc8 pm8 an8 cd8 ct8), sl8⟩)
    (c8 : PySem.W.codeIn K cd8 "_law_numbers" = true) (k8 : PySem.W.keepIn K (.ref f8) = true)
    (a9 : PySem.W.nsIn K mainGlobals "_law_draw" = some (some (.ref f9)))
    (l9 : K.lookup f9 = some ⟨oc9, od9, .func (PySem.W.fnOf "_law_draw" "_law_draw" (defArgs s_law_draw) (defBody s_law_draw) (defScope s_law_draw) .none kV9 dc9 pm9 an9 cd9 ct9), sl9⟩)
    (c9 : PySem.W.codeIn K cd9 "_law_draw" = true) (k9 : PySem.W.keepIn K (.ref f9) = true)
    (a10 : PySem.W.nsIn K mainGlobals "_law_equal" = some (some (.ref f10)))
    (l10 : K.lookup f10 = some ⟨oc10, od10, .func (PySem.W.fnOf "_law_equal" "_law_equal" (defArgs s_law_equal) (defBody s_law_equal) (defScope s_law_equal) .none kV10 dc10 pm10 an10 cd10 ct10), sl10⟩)
    (c10 : PySem.W.codeIn K cd10 "_law_equal" = true) (k10 : PySem.W.keepIn K (.ref f10) = true)
    (a11 : PySem.W.nsIn K mainGlobals "_law_all_equal" = some (some (.ref f11)))
    (l11 : K.lookup f11 = some ⟨oc11, od11, .func (PySem.W.fnOf "_law_all_equal" "_law_all_equal" (defArgs s_law_all_equal) (defBody s_law_all_equal) (defScope s_law_all_equal) .none kV11 dc11 pm11 an11 cd11 ct11), sl11⟩)
    (c11 : PySem.W.codeIn K cd11 "_law_all_equal" = true) (k11 : PySem.W.keepIn K (.ref f11) = true)
    (a12 : PySem.W.nsIn K mainGlobals "_law_perform" = some (some (.ref f12)))
    (l12 : K.lookup f12 = some ⟨oc12, od12, .func (PySem.W.fnOf "_law_perform" "_law_perform" (defArgs s_law_perform) (defBody s_law_perform) (defScope s_law_perform) .none kV12 dc12 pm12 an12 cd12 ct12), sl12⟩)
    (c12 : PySem.W.codeIn K cd12 "_law_perform" = true) (k12 : PySem.W.keepIn K (.ref f12) = true)
    (a13 : PySem.W.nsIn K mainGlobals "_law_places" = some (some (.ref f13)))
    (l13 : K.lookup f13 = some ⟨oc13, od13, .func (PySem.W.fnOf "_law_places" "_law_places" (defArgs s_law_places) (defBody s_law_places) (defScope s_law_places) .none kV13 dc13 pm13 an13 cd13 ct13), sl13⟩)
    (c13 : PySem.W.codeIn K cd13 "_law_places" = true) (k13 : PySem.W.keepIn K (.ref f13) = true)
    (a14 : PySem.W.nsIn K mainGlobals "_law_is_list" = some (some (.ref f14)))
    (l14 : K.lookup f14 = some ⟨oc14, od14, .func (PySem.W.fnOf "_law_is_list" "_law_is_list" (defArgs s_law_is_list) (defBody s_law_is_list) (defScope s_law_is_list) .none kV14 dc14 pm14 an14 cd14 ct14), sl14⟩)
    (c14 : PySem.W.codeIn K cd14 "_law_is_list" = true) (k14 : PySem.W.keepIn K (.ref f14) = true)
    (a15 : PySem.W.nsIn K mainGlobals "_law_contents" = some (some (.ref f15)))
    (l15 : K.lookup f15 = some ⟨oc15, od15, .func (PySem.W.fnOf "_law_contents" "_law_contents" (defArgs s_law_contents) (defBody s_law_contents) (defScope s_law_contents) .none kV15 dc15 pm15 an15 cd15 ct15), sl15⟩)
    (c15 : PySem.W.codeIn K cd15 "_law_contents" = true) (k15 : PySem.W.keepIn K (.ref f15) = true)
    (a16 : PySem.W.nsIn K mainGlobals "law" = some (some (.ref f16)))
    (l16 : K.lookup f16 = some ⟨oc16, od16, .func (PySem.W.fnOf "law" "law" (defArgs s_law) (defBody s_law) (defScope s_law) .none kV16 dc16 pm16 an16 cd16 ct16), sl16⟩)
    (c16 : PySem.W.codeIn K cd16 "law" = true) (k16 : PySem.W.keepIn K (.ref f16) = true)
    (z_all : PySem.W.nsIn K mainGlobals "all" = some none)
    (z_bool : PySem.W.nsIn K mainGlobals "bool" = some none)
    (z_int : PySem.W.nsIn K mainGlobals "int" = some none)
    (z_isinstance : PySem.W.nsIn K mainGlobals "isinstance" = some none)
    (z_len : PySem.W.nsIn K mainGlobals "len" = some none)
    (z_list : PySem.W.nsIn K mainGlobals "list" = some none)
    (z_max : PySem.W.nsIn K mainGlobals "max" = some none)
    (z_range : PySem.W.nsIn K mainGlobals "range" = some none)
    (z_set : PySem.W.nsIn K mainGlobals "set" = some none)
    (z_sorted : PySem.W.nsIn K mainGlobals "sorted" = some none)
    (z_str : PySem.W.nsIn K mainGlobals "str" = some none)
    (z_tuple : PySem.W.nsIn K mainGlobals "tuple" = some none)
    (z_MOST_BITS : PySem.W.nsIn K mainGlobals "MOST_BITS" = some (some (.int 120 t_MOST_BITS)))
    : ∃ fd : FuncData, (∀ (s : Shared) (v : Value), BindsTo s fd ⟨[v], []⟩ [("script", v)]) ∧ ∀ base : Heap, K.In base → base.Ns mainGlobals mg → FnOk l.prog w K mg base CX0 10 fa fd ["script"] (sp_law K) := by
  have e := hfa.symm.trans (PySem.W.mg_of X G a16)
  cases e
  have F0 := fun_mk (st := s_is_below) l0 c0 k0
  have b0 := F0.binds (ps := ["value", "bound"]) fun _ _ _ _ _ _ us hl => match us, hl with | [_, _], _ => rfl
  have F1 := fun_mk (st := s_is_gate) l1 c1 k1
  have b1 := F1.binds (ps := ["gate"]) fun _ _ _ _ _ _ us hl => match us, hl with | [_], _ => rfl
  have F2 := fun_mk (st := s_is_bit) l2 c2 k2
  have b2 := F2.binds (ps := ["value"]) fun _ _ _ _ _ _ us hl => match us, hl with | [_], _ => rfl
  have F3 := fun_mk (st := s_are_rising) l3 c3 k3
  have b3 := F3.binds (ps := ["controls"]) fun _ _ _ _ _ _ us hl => match us, hl with | [_], _ => rfl
  have F4 := fun_mk (st := s_spread) l4 c4 k4
  have b4 := F4.binds (ps := ["target", "controls", "borrowed"]) fun _ _ _ _ _ _ us hl => match us, hl with | [_, _, _], _ => rfl
  have F5 := fun_mk (st := s_are_borrowed) l5 c5 k5
  have b5 := F5.binds (ps := ["borrowed", "needed", "taken"]) fun _ _ _ _ _ _ us hl => match us, hl with | [_, _, _], _ => rfl
  have F6 := fun_mk (st := s_gate_of_two) l6 c6 k6
  have b6 := F6.binds (ps := ["target", "a", "b"]) fun _ _ _ _ _ _ us hl => match us, hl with | [_, _, _], _ => rfl
  have F7 := fun_mk (st := s_law_mixed) l7 c7 k7
  have b7 := F7.binds (ps := ["number", "k"]) fun _ _ _ _ _ _ us hl => match us, hl with | [_, _], _ => rfl
  have F8 := fun_mk (st := s_law_numbers) l8 c8 k8
  have b8 := F8.binds (ps := ["script"]) fun _ _ _ _ _ _ us hl => match us, hl with | [_], _ => rfl
  have F9 := fun_mk (st := s_law_draw) l9 c9 k9
  have b9 := F9.binds (ps := ["draws"]) fun _ _ _ _ _ _ us hl => match us, hl with | [_], _ => rfl
  have F10 := fun_mk (st := s_law_equal) l10 c10 k10
  have b10 := F10.binds (ps := ["actual", "due"]) fun _ _ _ _ _ _ us hl => match us, hl with | [_, _], _ => rfl
  have F11 := fun_mk (st := s_law_all_equal) l11 c11 k11
  have b11 := F11.binds (ps := ["actual", "due"]) fun _ _ _ _ _ _ us hl => match us, hl with | [_, _], _ => rfl
  have F12 := fun_mk (st := s_law_perform) l12 c12 k12
  have b12 := F12.binds (ps := ["gates", "bits"]) fun _ _ _ _ _ _ us hl => match us, hl with | [_, _], _ => rfl
  have F13 := fun_mk (st := s_law_places) l13 c13 k13
  have b13 := F13.binds (ps := ["draws", "many"]) fun _ _ _ _ _ _ us hl => match us, hl with | [_, _], _ => rfl
  have F14 := fun_mk (st := s_law_is_list) l14 c14 k14
  have b14 := F14.binds (ps := ["gates", "many", "used"]) fun _ _ _ _ _ _ us hl => match us, hl with | [_, _, _], _ => rfl
  have F15 := fun_mk (st := s_law_contents) l15 c15 k15
  have b15 := F15.binds (ps := ["draws", "controls"]) fun _ _ _ _ _ _ us hl => match us, hl with | [_, _], _ => rfl
  have F16 := fun_mk (st := s_law) l16 c16 k16
  have b16 := F16.binds (ps := ["script"]) fun _ _ _ _ _ _ us hl => match us, hl with | [_], _ => rfl
  exact ⟨PySem.W.fnOf "law" "law" (defArgs s_law) (defBody s_law) (defScope s_law) .none kV16 dc16 pm16 an16 cd16 ct16, fun s v => .of_eq rfl, fun base _ _ => ok_law (⟨_, _, F0, b0, PySem.W.mg_of X G a0, _, _, F1, b1, PySem.W.mg_of X G a1, _, _, F2, b2, PySem.W.mg_of X G a2, _, _, F3, b3, PySem.W.mg_of X G a3, _, _, F4, b4, PySem.W.mg_of X G a4, _, _, F5, b5, PySem.W.mg_of X G a5, _, _, F6, b6, PySem.W.mg_of X G a6, _, _, F7, b7, PySem.W.mg_of X G a7, _, _, F8, b8, PySem.W.mg_of X G a8, _, _, F9, b9, PySem.W.mg_of X G a9, _, _, F10, b10, PySem.W.mg_of X G a10, _, _, F11, b11, PySem.W.mg_of X G a11, _, _, F12, b12, PySem.W.mg_of X G a12, _, _, F13, b13, PySem.W.mg_of X G a13, _, _, F14, b14, PySem.W.mg_of X G a14, _, _, F15, b15, PySem.W.mg_of X G a15, _, _, F16, b16, PySem.W.mg_of X G a16, E_BrimfulError, PySem.W.mg_of X G aE_BrimfulError, xE_BrimfulError, kE_BrimfulError, bE_BrimfulError, tE_BrimfulError, dE_BrimfulError, ⟨h1E_BrimfulError, h2E_BrimfulError, bE_BrimfulError, dE_BrimfulError, h3E_BrimfulError, hnE, htE, h4E_BrimfulError⟩, E_BadGate, PySem.W.mg_of X G aE_BadGate, xE_BadGate, kE_BadGate, bE_BadGate, tE_BadGate, dE_BadGate, ⟨h1E_BadGate, h2E_BadGate, bE_BadGate, dE_BadGate, h3E_BadGate, hnE, htE, h4E_BadGate⟩, sE_BrimfulError_BrimfulError, sE_BrimfulError_BadGate, sE_BadGate_BrimfulError, sE_BadGate_BadGate, PySem.W.mg_none_of X G z_all, PySem.W.mg_none_of X G z_bool, PySem.W.mg_none_of X G z_int, PySem.W.mg_none_of X G z_isinstance, PySem.W.mg_none_of X G z_len, PySem.W.mg_none_of X G z_list, PySem.W.mg_none_of X G z_max, PySem.W.mg_none_of X G z_range, PySem.W.mg_none_of X G z_set, PySem.W.mg_none_of X G z_sorted, PySem.W.mg_none_of X G z_str, PySem.W.mg_none_of X G z_tuple, _, PySem.W.mg_of X G z_MOST_BITS⟩ : Txt K mg)⟩
end
end Br
open PySem PySem.W PyProof.Rows
set_option maxRecDepth 100000 in
set_option maxHeartbeats 0 in
theorem PySem.Challenge.cw_brimful_k32_gates_are_spread_holds : PySem.Challenge.rw_brimful_k32_gates_are_spread.Holds := by
  w_on; o_law; k_head; (case hw => w_witness2)
  k_fill
  refine L2.walk_of (l := PySem.Challenge.rw_brimful_k32_gates_are_spread) (n := 63) (k := 10) (x := "script") (CX := fun _ => L2.CX0) (sp := fun w => Br.sp_law _) rfl (by decide) rfl ⟨rfl, by decide, by decide⟩ (fun w h Y => PySem.W.kIn_of Y) ?F (fun _ _ a ns hl _ hS => ⟨a, ns, rfl, hS, hl, fun _ => rfl⟩) (fun _ _ _ _ _ h => h)
  case F =>
    intro w mg fa h KX G hmg
    refine' Br.all_mk KX G hmg ?hnE ?htE ?aE_BrimfulError ?xE_BrimfulError ?kE_BrimfulError ?bE_BrimfulError ?tE_BrimfulError ?dE_BrimfulError ?h1E_BrimfulError ?h2E_BrimfulError ?h3E_BrimfulError ?h4E_BrimfulError ?aE_BadGate ?xE_BadGate ?kE_BadGate ?bE_BadGate ?tE_BadGate ?dE_BadGate ?h1E_BadGate ?h2E_BadGate ?h3E_BadGate ?h4E_BadGate ?sE_BrimfulError_BrimfulError ?sE_BrimfulError_BadGate ?sE_BadGate_BrimfulError ?sE_BadGate_BadGate ?a0 ?l0 ?c0 ?k0 ?a1 ?l1 ?c1 ?k1 ?a2 ?l2 ?c2 ?k2 ?a3 ?l3 ?c3 ?k3 ?a4 ?l4 ?c4 ?k4 ?a5 ?l5 ?c5 ?k5 ?a6 ?l6 ?c6 ?k6 ?a7 ?l7 ?c7 ?k7 ?a8 ?l8 ?c8 ?k8 ?a9 ?l9 ?c9 ?k9 ?a10 ?l10 ?c10 ?k10 ?a11 ?l11 ?c11 ?k11 ?a12 ?l12 ?c12 ?k12 ?a13 ?l13 ?c13 ?k13 ?a14 ?l14 ?c14 ?k14 ?a15 ?l15 ?c15 ?k15 ?a16 ?l16 ?c16 ?k16 ?z_all ?z_bool ?z_int ?z_isinstance ?z_len ?z_list ?z_max ?z_range ?z_set ?z_sorted ?z_str ?z_tuple ?z_MOST_BITS
    (case hnE => k_is)
    (case htE => k_is)
    (case aE_BrimfulError => k_is)
    (case xE_BrimfulError => k_exc)
    (case kE_BrimfulError => k_is)
    (case bE_BrimfulError => k_is)
    (case tE_BrimfulError => k_is)
    (case dE_BrimfulError => k_is)
    (case h1E_BrimfulError => k_is)
    (case h2E_BrimfulError => k_is)
    (case h3E_BrimfulError => k_is)
    (case h4E_BrimfulError => k_is)
    (case aE_BadGate => k_is)
    (case xE_BadGate => k_exc)
    (case kE_BadGate => k_is)
    (case bE_BadGate => k_is)
    (case tE_BadGate => k_is)
    (case dE_BadGate => k_is)
    (case h1E_BadGate => k_is)
    (case h2E_BadGate => k_is)
    (case h3E_BadGate => k_is)
    (case h4E_BadGate => k_is)
    (case sE_BrimfulError_BrimfulError => first | rfl | k_is)
    (case sE_BrimfulError_BadGate => first | rfl | k_is)
    (case sE_BadGate_BrimfulError => first | rfl | k_is)
    (case sE_BadGate_BadGate => first | rfl | k_is)
    (case a0 => k_is)
    (case l0 => k_is)
    (case c0 => k_is)
    (case k0 => k_is)
    (case a1 => k_is)
    (case l1 => k_is)
    (case c1 => k_is)
    (case k1 => k_is)
    (case a2 => k_is)
    (case l2 => k_is)
    (case c2 => k_is)
    (case k2 => k_is)
    (case a3 => k_is)
    (case l3 => k_is)
    (case c3 => k_is)
    (case k3 => k_is)
    (case a4 => k_is)
    (case l4 => k_is)
    (case c4 => k_is)
    (case k4 => k_is)
    (case a5 => k_is)
    (case l5 => k_is)
    (case c5 => k_is)
    (case k5 => k_is)
    (case a6 => k_is)
    (case l6 => k_is)
    (case c6 => k_is)
    (case k6 => k_is)
    (case a7 => k_is)
    (case l7 => k_is)
    (case c7 => k_is)
    (case k7 => k_is)
    (case a8 => k_is)
    (case l8 => k_is)
    (case c8 => k_is)
    (case k8 => k_is)
    (case a9 => k_is)
    (case l9 => k_is)
    (case c9 => k_is)
    (case k9 => k_is)
    (case a10 => k_is)
    (case l10 => k_is)
    (case c10 => k_is)
    (case k10 => k_is)
    (case a11 => k_is)
    (case l11 => k_is)
    (case c11 => k_is)
    (case k11 => k_is)
    (case a12 => k_is)
    (case l12 => k_is)
    (case c12 => k_is)
    (case k12 => k_is)
    (case a13 => k_is)
    (case l13 => k_is)
    (case c13 => k_is)
    (case k13 => k_is)
    (case a14 => k_is)
    (case l14 => k_is)
    (case c14 => k_is)
    (case k14 => k_is)
    (case a15 => k_is)
    (case l15 => k_is)
    (case c15 => k_is)
    (case k15 => k_is)
    (case a16 => k_is)
    (case l16 => k_is)
    (case c16 => k_is)
    (case k16 => k_is)
    (case z_all => k_is)
    (case z_bool => k_is)
    (case z_int => k_is)
    (case z_isinstance => k_is)
    (case z_len => k_is)
    (case z_list => k_is)
    (case z_max => k_is)
    (case z_range => k_is)
    (case z_set => k_is)
    (case z_sorted => k_is)
    (case z_str => k_is)
    (case z_tuple => k_is)
    (case z_MOST_BITS => k_is)

