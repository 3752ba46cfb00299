import PyProof.Rows.All
import Wide.All
import OpenK.AllK
import Wide.FinOn
import HandS.ForMost
import HandS.Gcd
import HandS.Wide
import HandS.IsInst
import HandS.Steps
import HandS.SortKw
import HandS.SetFor
import PyProof.SetRoads
import PyProof.Rows.SetFrom
import KE.DataMinMax
import HandS.Evl
import HandS.Walk
import HandS.ForExc
import HandS.ExcIs
import HandS.RaiseMore
import HandS.FStr
import KE.GoesEnum
import PyProof.Rows.MatchSeqLen
import Flt.RightSqrt
import PySem.Challenge.RW_brimful_k22_effects_of_words
set_option Elab.async false
set_option linter.all false
set_option maxRecDepth 100000
set_option maxHeartbeats 4000000

namespace Br
open PySem PySem.Spec PyProof.Rows L2

/-! ### readings with names -/
def rLen (K : PySem.W.Frag) : List V → Hp → VK → Prop := fun xs H Q => ∃ p ys, xs = [.ref p] ∧ (SqL K H p ys ∨ SqT K H p ys) ∧ Q (.int ys.length) H
theorem cr_len {X : Cx} : CallR X (.builtin "len") (rLen X.K) := call_len_seq
def rInt1 : List V → Hp → VK → Prop := fun xs H Q => (∃ i, xs = [.int i] ∧ Q (.int i) H) ∨ ∃ k, xs = [.bl k] ∧ Q (.int (if k then 1 else 0)) H
theorem cr_int1 {X : Cx} : CallR X (.type "int") rInt1 := call_int1
def rMin2 : List V → Hp → VK → Prop := fun xs H Q => ∃ i j, xs = [.int i, .int j] ∧ Q (.int (if j < i then j else i)) H
theorem cr_min2 {X : Cx} (hc : X.calm = true) : CallR X (.builtin "min") rMin2 := call_min2 hc
def rMax2 : List V → Hp → VK → Prop := fun xs H Q => ∃ i j, xs = [.int i, .int j] ∧ Q (.int (if j > i then j else i)) H
theorem cr_max2 {X : Cx} (hc : X.calm = true) : CallR X (.builtin "max") rMax2 := call_max2 hc
def rListOf (K : PySem.W.Frag) : List V → Hp → VK → Prop := fun xs H Q => ∃ p ys, xs = [.ref p] ∧ (SqL K H p ys ∨ SqT K H p ys) ∧ ∀ l, H l = none → Q (.ref l) (upd H l (.lst ys))
theorem cr_list_of {X : Cx} : CallR X (.type "list") (rListOf X.K) := call_list_of
def rTupOf (K : PySem.W.Frag) : List V → Hp → VK → Prop := fun xs H Q => ∃ p ys, xs = [.ref p] ∧ ((SqL K H p ys ∧ ∀ l, H l = none → Q (.ref l) (upd H l (.tup ys))) ∨ (SqT K H p ys ∧ Q (.ref p) H))
theorem cr_tup_of {X : Cx} : CallR X (.type "tuple") (rTupOf X.K) := call_tuple_of
def cr_isqrt_r : List V → Hp → VK → Prop := fun vs H Q => ∃ i : Int, vs = [.int i] ∧ 0 ≤ i ∧ i < 2 ^ 64 ∧ Q (.int ((Float64.isqrt i.toNat : Nat) : Int)) H
/-! ### steps of a reading -/
section
variable {σ : L2.St} {H : Hp} {D : Ends} {Q : VK} {QT : Bool → Hp → Prop} {QA : List V → Hp → Prop} {K : PySem.W.Frag}
theorem x_seq {a u : TS} (h : a ⟨u D, D.rt, D.bk, D.ct⟩ σ H) : tSeq a u D σ H := h
theorem x_cut {a u : TS} (M : L2.St → Hp → Prop) (h : a ⟨M, D.rt, D.bk, D.ct⟩ σ H) (k : ∀ σ' H', M σ' H' → u D σ' H') : Evl.tCut a u D σ H := ⟨M, h, k⟩
theorem x_next (h : D.nx σ H) : tNext D σ H := h
theorem x_set {te : TE} {i : Nat} (h : te σ H fun x H1 => D.nx (σ.set i (some x)) H1) : tAsg te (gName i) D σ H := h
theorem x_asg {te : TE} {g : TG} (h : te σ H fun x H1 => g x σ H1 D.nx) : tAsg te g D σ H := h
/-- what a field's reading asks of the object -/
def FldR (K : PySem.W.Frag) (f : Str) (x : V) (H : Hp) (Q : VK) : Prop := ∃ a C dx fs v, x = .ref a ∧ H a = some (.ins C dx fs) ∧ Cls K C ∧ NoAttr K C f ∧ fs.lookup f = some v ∧ Q v H
theorem x_fld {ta : TE} {f : Str} (h : ta σ H fun x H1 => FldR K f x H1 Q) : tFld K ta f σ H Q := h
theorem x_fldR {a C dx : Addr} {fs : List (Str × V)} {f : Str} {v : V} (h : H a = some (.ins C dx fs)) (c : Cls K C) (n : NoAttr K C f) (l : fs.lookup f = some v) (q : Q v H) : FldR K f (.ref a) H Q := ⟨a, C, dx, fs, v, rfl, h, c, n, l, q⟩
/-- what storing a field asks -/
def FldS (K : PySem.W.Frag) (f : Str) (y x : V) (H : Hp) (R : Hp → Prop) : Prop := ∃ a C dx fs, x = .ref a ∧ H a = some (.ins C dx fs) ∧ Cls K C ∧ NoAttr K C f ∧ fs.length < 1000 ∧ R (upd H a (.ins C dx (putF f y fs)))
theorem x_fldS {ta tv : TE} {f : Str} (h : tv σ H fun y H1 => ta σ H1 fun x H2 => FldS K f y x H2 fun H3 => D.nx σ H3) : sFld K ta tv f D σ H := h
theorem x_gName {i : Nat} {v : V} {R : L2.St → Hp → Prop} (h : R (σ.set i (some v)) H) : gName i v σ H R := h
theorem x_par {i j : Nat} {ta tb : TE} (h : ta σ H fun x H1 => tb σ H1 fun y H2 => D.nx ((σ.set i (some x)).set j (some y)) H2) : tPar i j (tCons ta (tCons tb tNil)) D σ H :=
  (congrArg (fun (f : (V → Hp → Prop)) => ta σ H f) (funext fun x => funext fun H1 => congrArg (fun (f : (V → Hp → Prop)) => tb σ H1 f) (funext fun y => funext fun H2 => propext
    ⟨fun h => ⟨x, y, rfl, h⟩, fun ⟨v, w, e, h⟩ => by cases e; exact h⟩))).mp h
theorem x_ret {te : TE} (h : te σ H D.rt) : tRet te D σ H := h
theorem x_retN (h : D.rt .non H) : tRetN D σ H := h
theorem x_drop {te : TE} (h : te σ H fun _ H1 => D.nx σ H1) : tDrop te D σ H := h
theorem x_if {c : TT} {t u : TS} (h : c σ H fun b H1 => if b = true then t D σ H1 else u D σ H1) : tIfS c t u D σ H := h
theorem x_brk (h : D.bk σ H) : tBreak D σ H := h
theorem x_cont (h : D.ct σ H) : tCont D σ H := h
theorem x_var {i : Nat} {v : V} (h : σ[i]? = some (some v)) (q : Q v H) : tVar i σ H Q := ⟨v, h, q⟩
theorem x_c {v : V} (q : Q v H) : tC v σ H Q := q
theorem x_op {r : R2} {ta tb : TE} (h : ta σ H fun x H1 => tb σ H1 fun y H2 => r x y H2 Q) : tOp r ta tb σ H Q := h
theorem x_un {r : V → Hp → VK → Prop} {ta : TE} (h : ta σ H fun x H1 => r x H1 Q) : tUn r ta σ H Q := h
theorem x_I0 {g : Int → Int → V} {i j : Int} (q : Q (g i j) H) : rI0 g (.int i) (.int j) H Q := ⟨i, j, rfl, rfl, q⟩
theorem x_I {C : Int → Int → Prop} {g : Int → Int → V} {i j : Int} (c : C i j) (q : Q (g i j) H) : rI C g (.int i) (.int j) H Q := ⟨i, j, rfl, rfl, c, q⟩
theorem x_U {g : Int → V} {i : Int} (q : Q (g i) H) : rU g (.int i) H Q := ⟨i, rfl, q⟩
theorem v_int {i j : Int} : decide (V.int i = V.int j) = decide (i = j) := decide_eq_decide.mpr ⟨fun h => V.int.inj h, fun h => h ▸ rfl⟩
theorem x_EqI {i j : Int} (q : Q (.bl (decide (i = j))) H) : rEq (.int i) (.int j) H Q := ⟨rfl, v_int ▸ q⟩
theorem x_NeI {i j : Int} (q : Q (.bl (!decide (i = j))) H) : rNe (.int i) (.int j) H Q := ⟨rfl, by rw [v_int]; exact q⟩
theorem x_EqB {i j : Bool} (q : Q (.bl (decide (i = j))) H) : rEq (.bl i) (.bl j) H Q := ⟨rfl, by
  have e : decide (V.bl i = V.bl j) = decide (i = j) := decide_eq_decide.mpr ⟨fun h => V.bl.inj h, fun h => h ▸ rfl⟩
  rw [e]; exact q⟩
theorem x_Eq {x y : V} (s : scal x y = true) (q : Q (.bl (decide (x = y))) H) : rEq x y H Q := ⟨s, q⟩
theorem x_Ne {x y : V} (s : scal x y = true) (q : Q (.bl (!decide (x = y))) H) : rNe x y H Q := ⟨s, q⟩
theorem x_isN {x : V} (q : Q (.bl (decide (x = .non))) H) : (fun (x y : V) (H : Hp) (Q : VK) => y = V.non ∧ Q (.bl (decide (x = .non))) H) x .non H Q := ⟨rfl, q⟩
theorem x_ifE {t : TT} {ta tb : TE} (h : t σ H fun c H1 => if c = true then ta σ H1 Q else tb σ H1 Q) : tIf t ta tb σ H Q := h
theorem x_test {te : TE} {b : Unit} (h : te σ H fun x H1 => ∃ k, x = .bl k ∧ QT k H1) : tTest te σ H QT := h
theorem x_tB {te : TE} (h : te σ H fun x H1 => ∃ k, x = .bl k ∧ QT k H1) : tB te σ H QT := h
theorem x_bl {k : Bool} (q : QT k H) : ∃ k', V.bl k = .bl k' ∧ QT k' H := ⟨k, rfl, q⟩
theorem x_and {t u : TT} (h : t σ H fun c H1 => if c = true then u σ H1 QT else QT false H1) : tAnd t u σ H QT := h
theorem x_or {t u : TT} (h : t σ H fun c H1 => if c = true then QT true H1 else u σ H1 QT) : tOr t u σ H QT := h
theorem x_not {t : TT} (h : t σ H fun c H1 => QT (!c) H1) : tNot t σ H QT := h
theorem x_andV {ta tb : TE} (h : ta σ H fun x H1 => ∃ c, x = .bl c ∧ if c = true then tb σ H1 Q else Q (.bl false) H1) : tAndV ta tb σ H Q := h
theorem x_orV {ta tb : TE} (h : ta σ H fun x H1 => ∃ c, x = .bl c ∧ if c = true then Q (.bl true) H1 else tb σ H1 Q) : tOrV ta tb σ H Q := h
theorem x_notV {ta : TE} (h : ta σ H fun x H1 => ∃ c, x = .bl c ∧ Q (.bl (!c)) H1) : tNotV ta σ H Q := h
theorem x_blP {k : Bool} {P : Bool → Prop} (q : P k) : ∃ k', V.bl k = .bl k' ∧ P k' := ⟨k, rfl, q⟩
theorem x_nil (q : QA [] H) : tNil σ H QA := q
theorem x_cons {ta : TE} {tr : TA} (h : ta σ H fun x H1 => tr σ H1 fun xs H2 => QA (x :: xs) H2) : tCons ta tr σ H QA := h
theorem x_call {sp : Sp} {dvs : List V} {E : XK} {t : TA} (h : t σ H fun vs H1 => sp (vs ++ dvs) H1 Q E) : tCall sp dvs E t σ H Q := h
theorem x_CB {r : List V → Hp → VK → Prop} {t : TA} (h : t σ H fun vs H1 => r vs H1 Q) : tCB r t σ H Q := h
theorem x_BM {T : String} {r : V → List V → Hp → VK → Prop} {to : TE} {t : TA} (h : to σ H fun x H1 => tyV K T x H1 ∧ t σ H1 fun xs H2 => r x xs H2 Q) : tBM K T r to t σ H Q := h
theorem x_tup {t : TA} (h : t σ H fun xs H1 => xs.length ≤ sizeLine ∧ ∀ p, H1 p = none → Q (.ref p) (upd H1 p (.tup xs))) : tTup t σ H Q := h
theorem x_lst {t : TA} (h : t σ H fun xs H1 => xs.length ≤ sizeLine ∧ ∀ p, H1 p = none → Q (.ref p) (upd H1 p (.lst xs))) : tLst t σ H Q := h
theorem x_chain {r r' : R2} {ta tb tc : TE} (h : ta σ H fun x H1 => tb σ H1 fun y H2 => r x y H2 fun z H3 => ∃ k, z = .bl k ∧
  (if k = true then tc σ H3 fun w' H4 => r' y w' H4 Q else Q (.bl false) H3)) : tChain r r' ta tb tc σ H Q := h
theorem x_isi {x : V} {T S : String} {b : Bool} (ty : TyX K H x (.type S)) (h : kitB S T = some b) (q : Q (.bl b) H) : rIsi K [x, .ty T] H Q := ⟨x, .ty T, .type S, .type T, b, rfl, .ty T, ty, kit_ty h, q⟩
theorem x_iN {x : V} (q : Q (.bl (decide (x = .non))) H) : rIsN x .non H Q := ⟨rfl, q⟩
theorem x_nN {x : V} (q : Q (.bl (!decide (x = .non))) H) : rNotN x .non H Q := ⟨rfl, q⟩
theorem x_int1 {i : Int} (q : Q (.int i) H) : rInt1 [.int i] H Q := .inl ⟨i, rfl, q⟩
theorem x_min2 {i j : Int} (q : Q (.int (if j < i then j else i)) H) : rMin2 [.int i, .int j] H Q := ⟨i, j, rfl, q⟩
theorem x_max2 {i j : Int} (q : Q (.int (if j > i then j else i)) H) : rMax2 [.int i, .int j] H Q := ⟨i, j, rfl, q⟩
theorem x_listL {p : Addr} {xs : List V} (hp : SqL K H p xs) (q : ∀ l, H l = none → Q (.ref l) (upd H l (.lst xs))) : rListOf K [.ref p] H Q := ⟨p, xs, rfl, .inl hp, q⟩
theorem x_tupL {p : Addr} {xs : List V} (hp : SqL K H p xs) (q : ∀ l, H l = none → Q (.ref l) (upd H l (.tup xs))) : rTupOf K [.ref p] H Q := ⟨p, xs, rfl, .inl ⟨hp, q⟩⟩
theorem x_ite {p : Prop} [Decidable p] {A B : Prop} (h1 : p → A) (h2 : ¬ p → B) : if decide p = true then A else B := by
  by_cases h : p
  · rw [if_pos (decide_eq_true h)]; exact h1 h
  · rw [if_neg (by rw [decide_eq_false h]; exact Bool.false_ne_true)]; exact h2 h
theorem x_iteN {p : Prop} [Decidable p] {A B : Prop} (h1 : ¬ p → A) (h2 : p → B) : if (!decide p) = true then A else B := by
  by_cases h : p
  · rw [if_neg (by rw [decide_eq_true h]; decide)]; exact h2 h
  · rw [if_pos (by rw [decide_eq_false h]; rfl)]; exact h1 h
theorem x_iteB {b : Bool} {A B : Prop} (h1 : b = true → A) (h2 : b = false → B) : if b = true then A else B := by
  cases b with
  | true => rw [if_pos rfl]; exact h1 rfl
  | false => rw [if_neg Bool.false_ne_true]; exact h2 rfl
theorem x_iteBN {b : Bool} {A B : Prop} (h1 : b = false → A) (h2 : b = true → B) : if (!b) = true then A else B := by
  cases b with
  | true => rw [if_neg (by decide)]; exact h2 rfl
  | false => rw [if_pos (by decide)]; exact h1 rfl
theorem x_subL {i : Int} {x : V} {xs : List V} {p : Addr} {k : Nat} {q : Hp → Prop} (hp : H p = some (.lst xs)) (hk : ixN xs.length i = some k) (h : q (upd H p (.lst (xs.set k x)))) : rSetL (.ref p) (.int i) x H q :=
  ⟨p, xs, i, k, rfl, rfl, hp, hk, h⟩
theorem x_gSub {to ti : TE} {t : TSet} {v : V} {q : L2.St → Hp → Prop} (h : to σ H fun o H1 => ti σ H1 fun i H2 => t o i v H2 fun H3 => q σ H3) : gSub to ti t v σ H q := h
theorem x_for {wi : TI} {g : TG} {tb : TS} (h : wi σ H fun J H1 => ∃ W : Nat → Nat → L2.St → Hp → Prop, (∃ m, W 0 m σ H1) ∧ ∀ i m σ H, W i m σ H →
  (J.stop i H ∧ D.nx σ H) ∨ (J.go i H ∧ ∃ N : L2.St → Hp → Prop, (∀ σ' H', N σ' H' → ∃ m', m' < m ∧ W (i + 1) m' σ' H') ∧ ∀ x H', J.yld i H x H' → g x σ H' fun σ2 H2 => tb { D with nx := N, ct := N, bk := D.nx } σ2 H2)) : tFor wi g tb D σ H := h
theorem x_ixL {xs : List V} {i : Int} {v : V} {p : Addr} (hp : SqL K H p xs) (hi : atI xs i = some v) (q : Q v H) : rIxL K (.ref p) (.int i) H Q := ⟨p, xs, i, v, rfl, rfl, hp, hi, q⟩
theorem x_ixT {xs : List V} {i : Int} {v : V} {p : Addr} (hp : SqT K H p xs) (hi : atI xs i = some v) (q : Q v H) : rIxT K (.ref p) (.int i) H Q := ⟨p, xs, i, v, rfl, rfl, hp, hi, q⟩
/-- over a range from nought, of at most so many turns; the target a name -/
theorem x_forR1 {ta : TE} {j : Nat} {tb : TS} (n : Int) (P : Nat → L2.St → Hp → Prop) (hn : ∀ R : V → Hp → Prop, R (.int n) H → ta σ H R) (h1 : -(2 ^ 62) ≤ n) (h2 : n < 2 ^ 62) (h0 : P 0 σ H)
    (hs : ∀ (i : Nat) σ' H', (i : Int) < n → P i σ' H' → tb ⟨P (i + 1), D.rt, D.nx, P (i + 1)⟩ (σ'.set j (some (.int (i : Int)))) H') (hd : ∀ σ' H', P n.toNat σ' H' → D.nx σ' H') : tFor (iRng1 (tCons ta tNil)) (gName j) tb D σ H := by
  refine hn _ ⟨n, rfl, h1, h2, ?_⟩
  refine for_range (lo := 0) P h0 (fun i σ' H' hi p => ?_) hd
  have e : (0 : Int) + (i : Int) = (i : Int) := Int.zero_add _
  rw [e]
  exact hs i σ' H' (by omega) p
theorem x_forR2 {ta tc : TE} {j : Nat} {tb : TS} (lo n : Int) (P : Nat → L2.St → Hp → Prop) (hn : ∀ R : V → Hp → Prop, R (.int lo) H → ta σ H R) (hn2 : ∀ R : V → Hp → Prop, R (.int n) H → tc σ H R) (h1 : -(2 ^ 62) ≤ lo) (h2 : lo < 2 ^ 62) (h3 : -(2 ^ 62) ≤ n) (h4 : n < 2 ^ 62) (h0 : P 0 σ H)
    (hs : ∀ (i : Nat) σ' H', lo + (i : Int) < n → P i σ' H' → tb ⟨P (i + 1), D.rt, D.nx, P (i + 1)⟩ (σ'.set j (some (.int (lo + (i : Int))))) H') (hd : ∀ σ' H', P (n - lo).toNat σ' H' → D.nx σ' H') : tFor (iRng2 (tCons ta (tCons tc tNil))) (gName j) tb D σ H := by
  refine hn _ (hn2 _ ⟨lo, n, rfl, ⟨h1, h2, h3, h4⟩, ?_⟩)
  refine for_range (lo := lo) P h0 (fun i σ' H' hi p => ?_) hd
  exact hs i σ' H' (by omega) p
theorem rgC_up {i j c : Int} (hc : 0 < c) (hc2 : c < 1000000) (ha : 0 ≤ i) (ha' : i < 2 ^ 60) (hb : 0 ≤ j) (hb' : j < 2 ^ 60) : RgC i j c ((if i < j then (j - i - 1) / c + 1 else 0 : Int)).toNat := by
  have hd : 0 ≤ (j - i - 1) / c ∨ ¬ i < j := by
    by_cases h : i < j
    · exact .inl (Int.ediv_nonneg (by omega) (by omega))
    · exact .inr h
  have hd2 : i < j → (j - i - 1) / c * c ≤ j - i - 1 := fun _ => Int.ediv_mul_le _ (by omega)
  have hd3 : i < j → (j - i - 1) / c ≤ j - i - 1 := fun h => by
    have h0 : 0 ≤ (j - i - 1) / c := Int.ediv_nonneg (by omega) (by omega)
    have := hd2 h
    have h1 : (j - i - 1) / c * 1 ≤ (j - i - 1) / c * c := Int.mul_le_mul_of_nonneg_left (by omega) h0
    omega
  refine ⟨by omega, by omega, ?_, ?_⟩
  · unfold Builtin.Range.small Builtin.Range.rangeSize
    simp only [Builtin.Range.rangeFitsLong, Bool.and_eq_true, Bool.or_eq_true, decide_eq_true_eq, beq_iff_eq, show (c > 0) from hc, if_true]
    split
    · rename_i h
      have := hd3 h
      have h0 : 0 ≤ (j - i - 1) / c := Int.ediv_nonneg (by omega) (by omega)
      have := hd2 h
      generalize (j - i - 1) / c = q at *
      have e : (q + 1) * c = q * c + c := by rw [Int.add_mul, Int.one_mul]
      have e2 : (q + 1 - 1) * c = q * c := by rw [Int.add_sub_cancel]
      refine ⟨?_, ?_⟩ <;> (try rw [e]) <;> (try rw [e2]) <;> omega
    · omega
  · unfold Builtin.Range.rangeSize
    rw [if_pos hc]
    split
    · rcases hd with h | h
      · omega
      · omega
    · rfl
theorem x_forR3 {ta tc te : TE} {j : Nat} {tb : TS} (lo n c : Int) (P : Nat → L2.St → Hp → Prop) (hn : ∀ R : V → Hp → Prop, R (.int lo) H → ta σ H R) (hn2 : ∀ R : V → Hp → Prop, R (.int n) H → tc σ H R) (hn3 : ∀ R : V → Hp → Prop, R (.int c) H → te σ H R) (hc : 0 < c) (hc2 : c < 1000000) (h1 : 0 ≤ lo) (h2 : lo < 2 ^ 60) (h3 : 0 ≤ n) (h4 : n < 2 ^ 60) (h0 : P 0 σ H)
    (hs : ∀ (i : Nat) σ' H', lo + (i : Int) * c < n → P i σ' H' → tb ⟨P (i + 1), D.rt, D.nx, P (i + 1)⟩ (σ'.set j (some (.int (lo + (i : Int) * c)))) H') (hd : ∀ (i : Nat) σ' H', n ≤ lo + (i : Int) * c → P i σ' H' → D.nx σ' H') : tFor (iRng3 (tCons ta (tCons tc (tCons te tNil)))) (gName j) tb D σ H := by
  refine hn _ (hn2 _ (hn3 _ ⟨lo, n, c, _, rfl, rgC_up hc hc2 h1 h2 h3 h4, ?_⟩))
  refine for_rangeC (lo := lo) P h0 (fun i σ' H' hi p => hs i σ' H' ?_ p) (fun σ' H' p => hd _ σ' H' ?_ p)
  · split at hi
    · have hq : (i : Int) ≤ (n - lo - 1) / c := by omega
      have h5 : (n - lo - 1) / c * c ≤ n - lo - 1 := Int.ediv_mul_le _ (by omega)
      have h6 : (i : Int) * c ≤ (n - lo - 1) / c * c := Int.mul_le_mul_of_nonneg_right hq (by omega)
      omega
    · omega
  · split
    · have h5 : n - lo - 1 < ((n - lo - 1) / c + 1) * c := Int.lt_ediv_add_one_mul_self _ hc
      have h0 : 0 ≤ (n - lo - 1) / c := Int.ediv_nonneg (by omega) (by omega)
      rw [show ((((n - lo - 1) / c + 1).toNat : Nat) : Int) = (n - lo - 1) / c + 1 by omega]
      omega
    · have : (((0 : Int).toNat : Nat) : Int) * c = 0 := by simp
      omega
theorem isq_spec {i : Int} (h0 : 0 ≤ i) : ∃ r : Int, ((Float64.isqrt i.toNat : Nat) : Int) = r ∧ 0 ≤ r ∧ r * r ≤ i ∧ i < (r + 1) * (r + 1) := by
  refine ⟨_, rfl, Int.natCast_nonneg _, ?_, ?_⟩
  · have := (PySem.Float64.isqrt_spec i.toNat).1
    have e : ((Float64.isqrt i.toNat * Float64.isqrt i.toNat : Nat) : Int) ≤ (i.toNat : Int) := Int.ofNat_le.mpr this
    rw [Int.natCast_mul] at e
    omega
  · have := (PySem.Float64.isqrt_spec i.toNat).2
    have e : (i.toNat : Int) < (((Float64.isqrt i.toNat + 1) * (Float64.isqrt i.toNat + 1) : Nat) : Int) := Int.ofNat_lt.mpr this
    rw [Int.natCast_mul, Int.natCast_add] at e
    have e2 : ((1 : Nat) : Int) = 1 := rfl
    rw [e2] at e
    omega
theorem x_isqrt0 {i r : Int} (h0 : 0 ≤ i) (h1 : i < 2 ^ 64) (e : ((Float64.isqrt i.toNat : Nat) : Int) = r) (q : Q (.int r) H) : cr_isqrt_r [.int i] H Q := ⟨i, rfl, h0, h1, by rw [e]; exact q⟩
theorem x_forL {ta : TE} {g : TG} {tb : TS} {p : Addr} (xs : List V) (P : Nat → L2.St → Hp → Prop) (hn : ∀ R : V → Hp → Prop, R (.ref p) H → ta σ H R) (hp : SqL K H p xs) (h0 : P 0 σ H) (hl : ∀ i σ' H', i ≤ xs.length → P i σ' H' → SqL K H' p xs)
    (hs : ∀ i x σ' H', xs[i]? = some x → P i σ' H' → g x σ' H' fun σ2 H2 => tb ⟨P (i + 1), D.rt, D.nx, P (i + 1)⟩ σ2 H2) (hd : ∀ σ' H', P xs.length σ' H' → D.nx σ' H') : tFor (iList K ta) g tb D σ H :=
  hn _ ⟨p, rfl, ⟨xs, hp⟩, for_list (xs := xs) P h0 hl hs hd⟩
theorem x_app {p : Addr} {xs : List V} {y : V} (hp : H p = some (.lst xs)) (hl : xs.length < 1000000) (q : Q .non (upd H p (.lst (xs ++ [y])))) : rAppend (.ref p) [y] H Q :=
  ⟨p, xs, y, rfl, rfl, hp, Nat.lt_of_lt_of_le hl (by decide), q⟩
theorem x_tyL {p : Addr} {xs : List V} {R : Prop} (hp : H p = some (.lst xs)) (h : R) : tyV K "list" (.ref p) H ∧ R := ⟨.inl ⟨rfl, _, .inl (.inl hp)⟩, h⟩
theorem x_len {p : Addr} {xs : List V} (hp : SqL K H p xs) (q : Q (.int (xs.length : Int)) H) : rLen K [.ref p] H Q := ⟨p, xs, rfl, .inl hp, q⟩
theorem x_lenT {p : Addr} {xs : List V} (hp : SqT K H p xs) (q : Q (.int (xs.length : Int)) H) : rLen K [.ref p] H Q := ⟨p, xs, rfl, .inr hp, q⟩
theorem x_cat {p q : Addr} {xs ys : List V} (hp : H p = some (.lst xs)) (hq : H q = some (.lst ys)) (hl : xs.length + ys.length ≤ 1000000) (k : ∀ r, H r = none → Q (.ref r) (upd H r (.lst (xs ++ ys)))) : rCat (.ref p) (.ref q) H Q :=
  ⟨p, q, xs, ys, rfl, rfl, hp, hq, Nat.le_trans hl (by decide), k⟩
/-- while: a word by a measure -/
theorem x_while {c : TT} {tb : TS} (W : Nat → L2.St → Hp → Prop) (m0 : Nat) (h0 : W m0 σ H)
    (hs : ∀ m σ' H', W m σ' H' → ∃ b : Bool, (∀ R : Bool → Hp → Prop, R b H' → c σ' H' R) ∧ (b = true → tb ⟨fun σ2 H2 => ∃ m', m' < m ∧ W m' σ2 H2, D.rt, D.nx, fun σ2 H2 => ∃ m', m' < m ∧ W m' σ2 H2⟩ σ' H') ∧ (b = false → D.nx σ' H')) : tWhile c tb D σ H :=
  ⟨W, ⟨m0, h0⟩, fun m σ' H' w => by
    obtain ⟨b, h, h1, h2⟩ := hs m σ' H' w
    refine h _ ?_
    cases b with
    | true => exact iteT ⟨_, fun _ _ z => z, h1 rfl⟩
    | false => exact iteF (h2 rfl)⟩
theorem x_lcR1 {ta : TE} {j : Nat} {te : TE} {vs : List Nat} (n : Int) (P : Addr → Nat → Hp → Prop) (hn : ∀ R : V → Hp → Prop, R (.int n) H → ta σ H R) (h1 : -(2 ^ 62) ≤ n) (h2 : n < 2 ^ 62) (h0 : ∀ p, H p = none → P p 0 (upd H p (.lst [])))
    (hw : ∀ x, wipe ((wipe σ vs).set j (some x)) vs = wipe σ vs)
    (hs : ∀ p (i : Nat) H', H p = none → (i : Int) < n → P p i H' → te ((wipe σ vs).set j (some (.int (i : Int)))) H' fun y H4 => ∃ acc, H4 p = some (.lst acc) ∧ acc.length < sizeLine ∧ P p (i + 1) (upd H4 p (.lst (acc ++ [y]))))
    (hd : ∀ p H', H p = none → P p n.toNat H' → Q (.ref p) H') : tLc (iRng1 (tCons ta tNil)) (gName j) tYes te vs σ H Q := by
  refine hn _ ⟨n, rfl, h1, h2, fun p hp => ?_⟩
  refine lc_range (lo := 0) (Qd := fun H' => Q (.ref p) H') (P p) (h0 p hp) (fun i H' hi q => ?_) fun H' q => hd p H' hp q
  have e : (0 : Int) + (i : Int) = (i : Int) := Int.zero_add _
  rw [e]
  refine ⟨hw _, ?_⟩
  unfold tYes
  exact iteT (hs p i H' hp (by omega) q)
theorem x_lcL {ta : TE} {j : Nat} {te : TE} {vs : List Nat} {a : Addr} (xs : List V) (P : Addr → Nat → Hp → Prop) (hn : ∀ R : V → Hp → Prop, R (.ref a) H → ta σ H R) (ha : SqL K H a xs) (h0 : ∀ p, H p = none → P p 0 (upd H p (.lst [])))
    (hl : ∀ p i H', H p = none → i ≤ xs.length → P p i H' → SqL K H' a xs) (hw : ∀ x, wipe ((wipe σ vs).set j (some x)) vs = wipe σ vs)
    (hs : ∀ p (i : Nat) x H', H p = none → xs[i]? = some x → P p i H' → te ((wipe σ vs).set j (some x)) H' fun y H4 => ∃ acc, H4 p = some (.lst acc) ∧ acc.length < sizeLine ∧ P p (i + 1) (upd H4 p (.lst (acc ++ [y]))))
    (hd : ∀ p H', H p = none → P p xs.length H' → Q (.ref p) H') : tLc (iList K ta) (gName j) tYes te vs σ H Q := by
  refine hn _ ⟨a, rfl, ⟨xs, ha⟩, fun p hp => ?_⟩
  refine lc_list (xs := xs) (Qd := fun H' => Q (.ref p) H') (P p) (h0 p hp) (fun i H' hi q => hl p i H' hp hi q) (fun i x H' hi q => ?_) fun H' q => hd p H' hp q
  refine ⟨hw _, ?_⟩
  unfold tYes
  exact iteT (hs p i x H' hp hi q)
end
theorem x_gTup2 {K : PySem.W.Frag} {σ : L2.St} {H : Hp} {p : Addr} {x y : V} {i j : Nat} {R : L2.St → Hp → Prop} (hp : SqT K H p [x, y]) (h : R ((σ.set i (some x)).set j (some y)) H) : gTup K 2 (gCons (gName i) (gCons (gName j) gNil)) (.ref p) σ H R :=
  ⟨p, [x, y], rfl, hp, rfl, x, [y], rfl, y, [], rfl, rfl, h⟩
theorem sq_of {K : PySem.W.Frag} {H : Hp} {a : Addr} {xs : List V} (h : H a = some (.lst xs)) : SqL K H a xs := .inl (.inl h)
theorem st_of {K : PySem.W.Frag} {H : Hp} {a : Addr} {xs : List V} (h : H a = some (.tup xs)) : SqT K H a xs := .inl (.inl h)
theorem mul_r {i j : Int} (h1 : -(2 ^ 64) < j) (h2 : j < 2 ^ 64) : CMul i j := .inr ⟨h1, h2⟩
theorem mul_l {i j : Int} (h1 : -(2 ^ 64) < i) (h2 : i < 2 ^ 64) : CMul i j := .inl ⟨h1, h2⟩
theorem cr_isqrt {X : Cx} : CallR X (.builtin "math.isqrt") cr_isqrt_r := by
  intro pins s σ H vs us Q I r h
  obtain ⟨i, rfl, h0, h1, q⟩ := h
  cases r with
  | cons r1 rr =>
    cases rr
    obtain ⟨t, rfl⟩ := r1
    exact PySem.W.mg_isqrt h0 h1 ⟨.int _, H, I.tok _, ⟨_, rfl⟩, q⟩
/-- all but what stands at d is as it was -/
def Keep (d : Addr) (H H' : Hp) : Prop := ∀ b o, H b = some o → b ≠ d → H' b = some o
theorem Keep.refl (d : Addr) (H : Hp) : Keep d H H := fun _ _ h _ => h
theorem Keep.trans {d : Addr} {H H1 H2 : Hp} (a : Keep d H H1) (b : Keep d H1 H2) : Keep d H H2 := fun c o h n => b c o (a c o h n) n
theorem seqT {K : PySem.W.Frag} {H H' : Hp} {a : Addr} {xs : List V} (e : Same H H') (h : SqT K H a xs) : SqT K H' a xs := by
  rcases h with (h | ⟨o, h⟩) | h
  · exact .inl (.inl (e _ _ h))
  · exact .inl (.inr ⟨o, e _ _ h⟩)
  · exact .inr h
theorem sfree {H H' : Hp} (e : Same H H') {p : Addr} (h : H' p = none) : H p = none := e.free h
theorem sput {H H' : Hp} {p : Addr} {o : HO} (s : Same H H') (h : H p = none) : Same H (upd H' p o) := fun b x e => by
  rw [upd_ne (ne_of_none e h)]
  exact s b x e
theorem Same.tr {H H1 H2 : Hp} (a : Same H H1) (b : Same H1 H2) : Same H H2 := fun c o h => b c o (a c o h)
theorem Same.keep {d : Addr} {H H' : Hp} (a : Same H H') : Keep d H H' := fun c o h _ => a c o h
theorem same_upd {H : Hp} {p : Addr} {o : HO} (h : H p = none) : Same H (upd H p o) := fun b x e => by
  rw [upd_ne (ne_of_none e h)]
  exact e
theorem keep_upd {H : Hp} {p : Addr} {o : HO} : Keep p H (upd H p o) := fun b x e n => by
  rw [upd_ne n]
  exact e
/-- what is new may change -/
theorem Same.put {H H' : Hp} {p : Addr} {o : HO} (s : Same H H') (h : H p = none) : Same H (upd H' p o) := fun b x e => by
  rw [upd_ne (ne_of_none e h)]
  exact s b x e
theorem Keep.put {d : Addr} {H H' : Hp} {p : Addr} {o : HO} (s : Keep d H H') (h : H p = none) : Keep d H (upd H' p o) := fun b x e n => by
  rw [upd_ne (ne_of_none e h)]
  exact s b x e n
theorem Keep.seq {K : PySem.W.Frag} {d : Addr} {H H' : Hp} {a : Addr} {xs : List V} (e : Keep d H H') (n : a ≠ d) (h : SqL K H a xs) : SqL K H' a xs := by
  rcases h with (h | ⟨o, h⟩) | h
  · exact .inl (.inl (e _ _ h n))
  · exact .inl (.inr ⟨o, e _ _ h n⟩)
  · exact .inr h
/-- ints within bounds -/
def Rg (lo hi : Int) (ns : List Int) : Prop := ∀ z, z ∈ ns → lo ≤ z ∧ z < hi
theorem Rg.nil {lo hi : Int} : Rg lo hi [] := fun _ h => absurd h (by simp)
theorem Rg.app {lo hi : Int} {xs ys : List Int} (a : Rg lo hi xs) (b : Rg lo hi ys) : Rg lo hi (xs ++ ys) := fun z h => (List.mem_append.mp h).elim (a z) (b z)
theorem Rg.one {lo hi x : Int} (h1 : lo ≤ x) (h2 : x < hi) : Rg lo hi [x] := fun z h => by
  have e : z = x := by simpa using h
  subst e
  exact ⟨h1, h2⟩
theorem Rg.snoc {lo hi x : Int} {xs : List Int} (a : Rg lo hi xs) (h1 : lo ≤ x) (h2 : x < hi) : Rg lo hi (xs ++ [x]) := a.app (.one h1 h2)
theorem Rg.get {lo hi x : Int} {xs : List Int} {i : Nat} (a : Rg lo hi xs) (h : xs[i]? = some x) : lo ≤ x ∧ x < hi := a x (List.mem_of_getElem? h)
theorem map_get {ns : List Int} {i : Nat} {y : V} (h : (ns.map V.int)[i]? = some y) : ∃ z, ns[i]? = some z ∧ y = .int z := by
  rw [List.getElem?_map] at h
  cases e : ns[i]? with
  | none => rw [e] at h; cases h
  | some z => rw [e] at h; exact ⟨z, rfl, (Option.some.inj h).symm⟩
theorem gcd_step {a b : Int} : Int.gcd b (a % b) = Int.gcd a b := by
  rw [Int.emod_def, Int.gcd_sub_mul_left_right, Int.gcd_comm]
theorem half_step {a b : Int} (hb : 0 < b) (h : b < a) : b * (a % b) * 2 ≤ a * b := by
  have h1 := Int.emod_lt_of_pos a hb
  have h0 := Int.emod_nonneg a (show b ≠ 0 by omega)
  have h2 : b * (a / b) + a % b = a := Int.mul_ediv_add_emod a b
  have h3 : 1 ≤ a / b := (Int.le_ediv_iff_mul_le hb).mpr (by omega)
  have h4 : b * 1 ≤ b * (a / b) := Int.mul_le_mul_of_nonneg_left h3 (by omega)
  have h5 : a % b * 2 ≤ a := by omega
  have h6 : a % b * 2 * b ≤ a * b := Int.mul_le_mul_of_nonneg_right h5 (by omega)
  have e : b * (a % b) * 2 = a % b * 2 * b := by
    rw [Int.mul_comm b, Int.mul_assoc, Int.mul_assoc, Int.mul_comm b 2]
  omega
/-- an item of a written list -/
theorem at_lt {xs : List V} {i : Int} (h0 : 0 ≤ i) (h1 : i < (xs.length : Int)) : ∃ v, atI xs i = some v ∧ v ∈ xs := by
  obtain ⟨j, rfl⟩ : ∃ j : Nat, i = (j : Int) := ⟨i.toNat, by omega⟩
  have hj : j < xs.length := by omega
  exact ⟨xs[j], atI_nat (List.getElem?_eq_getElem hj), List.getElem_mem hj⟩
theorem map_getR {as : List Addr} {i : Nat} {v : V} (h : (as.map V.ref)[i]? = some v) : ∃ b, as[i]? = some b ∧ v = .ref b := by
  rw [List.getElem?_map] at h
  cases e : as[i]? with
  | none => rw [e] at h; cases h
  | some b => rw [e] at h; exact ⟨b, rfl, (Option.some.inj h).symm⟩
theorem kput {d : Addr} {H H' : Hp} {p : Addr} {o : HO} (s : Keep d H H') (h : H p = none) : Keep d H (upd H' p o) := s.put h
theorem snoc_at {α : Type} {xs : List α} {y z : α} {i j : Nat} (hl : xs.length = i) (h : (xs ++ [y])[j]? = some z) : (j < i ∧ xs[j]? = some z) ∨ (j = i ∧ z = y) := by
  by_cases hj : j < xs.length
  · rw [List.getElem?_append_left hj] at h
    exact .inl ⟨by omega, h⟩
  · have hlt := (List.getElem?_eq_some_iff.mp h).1
    rw [List.length_append] at hlt
    have e : j = xs.length := by simp at hlt; omega
    subst e
    rw [List.getElem?_append_right (Nat.le_refl _), Nat.sub_self] at h
    exact .inr ⟨hl, (Option.some.inj h).symm⟩
theorem lt_line {n : Nat} (h : n < 1000000) : n < sizeLine := Nat.lt_of_lt_of_le h (by decide)
/-- what is fresh may change -/
theorem same_keep {H H1 H2 : Hp} {l : Addr} (hl : H l = none) (s : Same H H1) (k : Keep l H1 H2) : Same H H2 := fun b o e => k b o (s b o e) (ne_of_none e hl)
theorem ixN_nat {n i : Nat} (h : i < n) : ixN n (i : Int) = some i := by
  unfold ixN
  grind
theorem cast_lt {x : Int} {c : Nat} (h0 : 0 ≤ x) (h1 : x < c) : ∃ t : Nat, x = (t : Int) ∧ t < c := ⟨x.toNat, by omega, by omega⟩
section
variable {σ : L2.St} {H : Hp} {Q : VK} {R : Option Int → Hp → Prop}
theorem x_sl2 {r : V → Option Int → Option Int → Hp → VK → Prop} {te : TE} {tl th : TO} (h : te σ H fun x H1 => tl σ H1 fun l H2 => th σ H2 fun u H3 => r x l u H3 Q) : tSl r te tl th σ H Q := h
theorem x_part0 (h : R none H) : tNoPart σ H R := h
theorem x_part1 {te : TE} (h : te σ H fun x H1 => ∃ i, x = .int i ∧ R (some i) H1) : tPart te σ H R := h
theorem x_cutL {K : PySem.W.Frag} {p : Addr} {xs : List V} {lo hi : Option Int} (hp : SqL K H p xs) (q : ∀ r, H r = none → Q (.ref r) (upd H r (.lst (cutV xs lo hi)))) : rSlL K (.ref p) lo hi H Q := ⟨p, xs, rfl, hp, q⟩
end
end Br

/-! ### zip of a list and a tuple -/
namespace Br
open PySem PySem.Spec PyProof.Rows L2
def ItzM (K : PySem.W.Frag) (a b : Addr) : It where
  go := fun i H => ∃ (xs ys : List V), SqL K H a xs ∧ SqT K H b ys ∧ i < xs.length ∧ i < ys.length
  yld := fun i H v H' => ∃ (p : Addr) (x y : V), v = .ref p ∧ H p = none ∧ H' = upd H p (.tup [x, y]) ∧ (∀ xs, SqL K H a xs → xs[i]? = some x) ∧ (∀ ys, SqT K H b ys → ys[i]? = some y)
  stop := fun i H => ∃ (xs ys : List V), SqL K H a xs ∧ SqT K H b ys ∧ i ≤ xs.length ∧ i ≤ ys.length ∧ (i = xs.length ∨ i = ys.length)
def MixSt (a b z p q i1 i2 : Addr) (i : Nat) (h : Heap) : Prop :=
  IsZip h z p q .none ∧ IsTupOf2 h p (.ref i1) (.ref i2) ∧ (∃ u v, IsTupOf2 h q u v) ∧ h.IsListIter i1 a i ∧ h.IsTupleIter i2 b i
theorem MixSt.sizes {a b z p q i1 i2 : Addr} {i : Nat} {h : Heap} (m : MixSt a b z p q i1 i2 i h) : z < h.objs.size ∧ p < h.objs.size ∧ q < h.objs.size ∧ i1 < h.objs.size ∧ i2 < h.objs.size := by
  obtain ⟨e1, e2, ⟨_, _, e3⟩, ⟨_, e4, _⟩, ⟨_, e5, _⟩⟩ := m
  exact ⟨Heap.lt_size e1, Heap.lt_size e2, Heap.lt_size e3, Heap.lt_size e4, Heap.lt_size e5⟩
theorem in5 {c z p q i1 i2 : Addr} (h : c ∈ [z, p, q, i1, i2]) : c = z ∨ c = p ∨ c = q ∨ c = i1 ∨ c = i2 := by simpa using h
theorem turn_mix {P : Program} {w : World} {K : PySem.W.Frag} {elts : List Expr} {kk : Nat} {tpos : Pos} {a b z p q i1 i2 : Addr} (S : ZipSep2 z p q i1 i2 [i1, a] [i2, b]) :
    Turn P w K (.Tuple elts kk tpos) (ItzM K a b) [z, p, q, i1, i2] z (MixSt a b z p q i1 i2) := by
  have ha : a ≠ i1 ∧ b ≠ i2 ∨ True := .inr trivial
  refine ⟨by simp, ?obj, ?keep, ?item, ?done, ?self⟩
  case obj =>
    intro i h st c hc
    obtain ⟨e1, e2, ⟨_, _, e3⟩, ⟨o4, e4, _, d4⟩, ⟨o5, e5, _, d5⟩⟩ := st
    rcases in5 hc with rfl | rfl | rfl | rfl | rfl
    · exact ⟨_, e1, fun _ z => nomatch z⟩
    · exact ⟨_, e2, fun _ z => nomatch z⟩
    · exact ⟨_, e3, fun _ z => nomatch z⟩
    · exact ⟨_, e4, fun _ z => by rw [d4] at z; cases z⟩
    · exact ⟨_, e5, fun _ z => by rw [d5] at z; cases z⟩
  case keep =>
    intro i h h' st k
    obtain ⟨e1, e2, ⟨u, v, e3⟩, e4, e5⟩ := st
    exact ⟨k _ (by simp) _ e1, k _ (by simp) _ e2, ⟨u, v, k _ (by simp) _ e3⟩, e4.at fun o => k _ (by simp) o, e5.at fun o => k _ (by simp) o⟩
  case item =>
    intro X hP hw hK hc i pins s σ H E I hf st hg
    subst hP hw hK
    have sz := st.sizes
    obtain ⟨e1, e2, ⟨u, v, e3⟩, e4, e5⟩ := st
    obtain ⟨xs, ys, hx, hy, lx, ly⟩ := hg
    obtain ⟨us, rx, p1, _⟩ := I.list hx
    obtain ⟨ws, ry, p2, _⟩ := I.tuple hy
    have nx := rx.length
    have ny := ry.length
    have hd : X.A.in1.handled = none := I.ok.hd hc
    have na : a ≠ i1 := fun e => by
      obtain ⟨o, eo, co, _⟩ := e4
      obtain ⟨o', _, eo', co', _⟩ := p1
      rw [e, eo] at eo'
      cases eo'
      rw [co] at co'
      simp at co'
    have nb : b ≠ i2 := fun e => by
      obtain ⟨o, eo, co, _⟩ := e5
      obtain ⟨o', eo', co', _⟩ := p2
      rw [e, eo] at eo'
      cases eo'
      rw [co] at co'
      simp at co'
    refine wpAny_pyNext_zipD2_item S (Draws.list hd i1 a na us.toArray) (Draws.tuple hd i2 b nb ws.toArray) e1 e2 e3 ⟨e4, p1.isList⟩ ⟨e5, p2⟩ (by simp; omega) (by simp; omega) ?_
    intro x1 x2 h1 tk q1 q2 z1 t1 s1 s2 nw hs hk
    refine ⟨_, rfl, wpAny_letOwnedTupleGo_zip (s := { s with heap := h1, toks := tk }) z1 fun h2 z2 sb => ?_⟩
    obtain ⟨x, gx⟩ : ∃ x, xs[i]? = some x := ⟨_, List.getElem?_eq_getElem lx⟩
    obtain ⟨y, gy⟩ : ∃ y, ys[i]? = some y := ⟨_, List.getElem?_eq_getElem ly⟩
    obtain ⟨ux, gux, rux⟩ := rx.get gx
    obtain ⟨uy, guy, ruy⟩ := ry.get gy
    have ex : x1 = ux := by
      rw [List.getElem?_toArray, gux] at q1
      exact (Option.some.inj q1).symm
    have ey : x2 = uy := by
      rw [List.getElem?_toArray, guy] at q2
      exact (Option.some.inj q2).symm
    subst ex ey
    have ne : ∀ {c : Addr}, c < s.heap.objs.size → s.heap.objs.size ≠ c := fun h => Nat.ne_of_gt h
    have new2 : h2.get? s.heap.objs.size = some { cls := .type "tuple", data := .seq #[x1, x2] } := (sb.2 _ (ne sz.1)).trans nw
    have kp : ∀ c o, c ∉ [z, p, q, i1, i2] → s.heap.get? c = some o → h2.get? c = some o := fun c o hc e => by
      have m : ∀ d, d ∈ [z, p, q, i1, i2] → c ≠ d := fun d hd e => hc (e ▸ hd)
      exact (sb.2 c (m z (by simp))).trans (hk c o (m z (by simp)) (m q (by simp)) (m i1 (by simp)) (m i2 (by simp)) e)
    have ok : ObjOk X.prog X.w (upd H s.heap.objs.size (.tup [x, y])) h2 s.heap.objs.size (.tup [x, y]) :=
      ⟨(show 2 ≤ sizeLine by decide), [x1, x2], .cons rux (.cons ruy .nil), ⟨_, new2, rfl, 0, rfl⟩⟩
    have J := I.turnedNew (t' := tk) kp hf (Nat.le_refl _) ok
    refine ⟨.ref s.heap.objs.size, _, J, rfl, ⟨_, x, y, rfl, I.hok.fresh (Nat.le_refl _), rfl, fun l hl => by rw [I.list_inj hl hx]; exact gx, fun l hl => by rw [I.tuple_inj hl hy]; exact gy⟩, ?_, fun c hcm => ?_⟩
    · refine ⟨z2, (sb.2 _ S.TIz).trans (hk _ _ S.TIz S.TITO S.TIi1 S.TIi2 e2), ⟨_, _, (sb.2 _ S.TOz).trans t1⟩, s1.1.at fun o e => (sb.2 _ S.zi1.symm).trans e, s2.1.at fun o e => (sb.2 _ S.zi2.symm).trans e⟩
    · rw [upd_ne]
      · exact (hf c hcm).1
      · rcases in5 hcm with rfl | rfl | rfl | rfl | rfl
        · exact (ne sz.1).symm
        · exact (ne sz.2.1).symm
        · exact (ne sz.2.2.1).symm
        · exact (ne sz.2.2.2.1).symm
        · exact (ne sz.2.2.2.2).symm
  case done =>
    intro X hP hw hK hc i pins s σ H E I hf st hg
    subst hP hw hK
    obtain ⟨e1, e2, ⟨u, v, e3⟩, e4, e5⟩ := st
    obtain ⟨xs, ys, hx, hy, lx, ly, hend⟩ := hg
    obtain ⟨us, rx, p1, _⟩ := I.list hx
    obtain ⟨ws, ry, p2, _⟩ := I.tuple hy
    have nx := rx.length
    have ny := ry.length
    have hd : X.A.in1.handled = none := I.ok.hd hc
    have na : a ≠ i1 := fun e => by
      obtain ⟨o, eo, co, _⟩ := e4
      obtain ⟨o', _, eo', co', _⟩ := p1
      rw [e, eo] at eo'
      cases eo'
      rw [co] at co'
      simp at co'
    have nb : b ≠ i2 := fun e => by
      obtain ⟨o, eo, co, _⟩ := e5
      obtain ⟨o', eo', co', _⟩ := p2
      rw [e, eo] at eo'
      cases eo'
      rw [co] at co'
      simp at co'
    refine wpAny_pyNext_zipD2_end S (Draws.list hd i1 a na us.toArray) (Draws.tuple hd i2 b nb ws.toArray) e1 e2 e3 ⟨e4, p1.isList⟩ ⟨e5, p2⟩ (by simp; omega) (by simp; omega) (by simp; omega) ?_
    intro h1 tk hk
    exact ⟨rfl, I.turnedL (t' := tk) (ch := [z, p, q, i1, i2]) (fun c o hc e => by
      have m : ∀ d, d ∈ [z, p, q, i1, i2] → c ≠ d := fun d hd e => hc (e ▸ hd)
      exact hk c o (m z (by simp)) (m q (by simp)) (m i1 (by simp)) (m i2 (by simp)) e) hf⟩
  case self => exact fun A i s Q E st h => wpAny_pyIter_zip st.1 h
def iZipM (K : PySem.W.Frag) (ta : TA) : TI := fun σ H R => ta σ H fun vs H1 => ∃ a b xs ys, vs = [.ref a, .ref b] ∧ SqL K H1 a xs ∧ SqT K H1 b ys ∧ R (ItzM K a b) H1
theorem pi_zipM {X : Cx} {e e2 : Expr} {ta : TA} {p pos tpos : Pos} {elts : List Expr} {kk : Nat} (hg : Gl X "zip") (hm : X.mg "zip" = none) (ha : PA X [e, e2] ta)
    (hs : starEach [e, e2] X.env = (false, eval e X.env) :: starEach [e2] X.env := by rfl) (hpl : (backTo pos (starEach [e2] X.env)).any (·.1) = false := by rfl) :
    PI X (.Tuple elts kk tpos) (.Call (.Name "zip" p) [e, e2] [] pos) (iZipM X.K ta) := by
  refine ⟨fun pins s σ H R I h => Call_ (ld_blt I hg hm PyProof.Rows.boot_zip (PyProof.Rows.callWith_type1 (thn (ha.run pos pins s σ H _ I h) ?_) hs hpl))⟩
  rintro us s1 ⟨vs, H1, I1, r1, a, b, xs, ys, rfl, hx, hy, go⟩
  obtain ⟨u1, u2, rfl, ra, rb⟩ : ∃ u1 u2, us = [u1, u2] ∧ RelV (.ref a) u1 ∧ RelV (.ref b) u2 := by
    cases r1 with
    | cons r rr =>
      cases rr with
      | cons r' rr =>
        cases rr
        exact ⟨_, _, rfl, r, r'⟩
  cases (show u1 = Value.ref a from ra)
  cases (show u2 = Value.ref b from rb)
  obtain ⟨us, rx, p1, _⟩ := I1.list hx
  obtain ⟨ws, ry, p2, _⟩ := I1.tuple hy
  have la : a < s1.heap.objs.size := p1.lt
  have lb : b < s1.heap.objs.size := by
    obtain ⟨_, e, _⟩ := id p2
    exact Heap.lt_size e
  refine zip_begins2 (begins_list a us.toArray) (begins_tuple b ws.toArray) p1.isList p2 ?_
  intro h1 hz hp hq g1 g2 hsz hk
  refine wpAny_pyIter_zip hz ?_
  have sep := zip_sep2 (N := s1.heap.objs.size) (fp1 := [a]) (fp2 := [b]) (fun c hc => by
    have e : c = a := by simpa using hc
    rw [e]; exact la) (fun c hc => by
    have e : c = b := by simpa using hc
    rw [e]; exact lb)
  refine ⟨_, _, _, _, H1, rfl, I1.kept (t' := s1.toks) hk, turn_mix sep, ⟨hz, hp, ⟨_, _, hq⟩, ⟨_, g1, rfl, rfl⟩, ⟨_, g2, rfl, rfl⟩⟩, fun c hc => ?_, go⟩
  have hle : s1.heap.objs.size ≤ c := by
    rcases in5 hc with e | e | e | e | e
    · rw [e]; exact Nat.le_add_right _ _
    · rw [e]; exact Nat.le_add_right _ _
    · rw [e]; exact Nat.le_add_right _ _
    · rw [e]; exact Nat.le_refl _
    · rw [e]; exact Nat.le_add_right _ _
  exact I1.fpOk hle (I1.hok.fresh hle)
theorem walk_mix {K : PySem.W.Frag} {a b : Addr} {xs ys : List V} {n : Nat} (h1 : xs.length = n) (h2 : ys.length = n) : Walk (ItzM K a b) n (fun H => SqL K H a xs ∧ SqT K H b ys) (YPair (fun i => xs[i]?) (fun i => ys[i]?)) := by
  refine ⟨fun i H hi q => ⟨xs, ys, q.1, q.2, by omega, by omega⟩, fun H q => ⟨xs, ys, q.1, q.2, by omega, by omega, by omega⟩, fun i H v H' hi q y => ?_⟩
  obtain ⟨p, x, y, e1, e2, e3, e4, e5⟩ := y
  exact ⟨p, x, y, e1, e2, e3, e4 _ q.1, e5 _ q.2⟩
/-- a for, a comprehension by a walk -/
theorem x_forI {wi : TI} {g : TG} {tb : TS} {D : Ends} {σ : L2.St} {H : Hp} {J : It} {n : Nat} {G : Hp → Prop} {Y : Nat → Hp → V → Hp → Prop} (hw : ∀ R : It → Hp → Prop, R J H → wi σ H R) (w : Walk J n G Y) (P : Nat → L2.St → Hp → Prop) (h0 : P 0 σ H)
    (hG : ∀ i σ' H', i ≤ n → P i σ' H' → G H') (hs : ∀ i x σ' H' H2, i < n → P i σ' H' → Y i H' x H2 → g x σ' H2 fun σ2 H3 => tb ⟨P (i + 1), D.rt, D.nx, P (i + 1)⟩ σ2 H3) (hd : ∀ σ' H', P n σ' H' → D.nx σ' H') : tFor wi g tb D σ H :=
  hw _ (for_it w P h0 hG hs hd)
theorem x_lcI {wi : TI} {g : TG} {te : TE} {vs : List Nat} {Q : VK} {σ : L2.St} {H : Hp} {J : It} {n : Nat} {G : Hp → Prop} {Y : Nat → Hp → V → Hp → Prop} (hw : ∀ R : It → Hp → Prop, R J H → wi σ H R) (w : Walk J n G Y) (P : Addr → Nat → Hp → Prop) (h0 : ∀ p, H p = none → P p 0 (upd H p (.lst [])))
    (hG : ∀ p i H', i ≤ n → H p = none → P p i H' → G H')
    (hs : ∀ p i x H' H2, i < n → H p = none → P p i H' → Y i H' x H2 → g x (wipe σ vs) H2 fun σ2 H3 => wipe σ2 vs = wipe σ vs ∧ te σ2 H3 fun y H4 => ∃ acc, H4 p = some (.lst acc) ∧ acc.length < sizeLine ∧ P p (i + 1) (upd H4 p (.lst (acc ++ [y]))))
    (hg : ∀ x σ' H' (R R' : L2.St → Hp → Prop), (∀ σ2 H2, R σ2 H2 → R' σ2 H2) → g x σ' H' R → g x σ' H' R') (hd : ∀ p H', H p = none → P p n H' → Q (.ref p) H') : tLc wi g tYes te vs σ H Q := by
  refine hw _ fun p hp => ?_
  refine lc_it w (Qd := fun H' => Q (.ref p) H') (P p) (h0 p hp) (fun i H' hi q => hG p i H' hi hp q) (fun i x H' H2 hi q y => ?_) fun H' q => hd p H' hp q
  refine hg _ _ _ _ _ (fun σ2 H3 z => ?_) (hs p i x H' H2 hi hp q y)
  refine ⟨z.1, ?_⟩
  unfold tYes
  exact iteT z.2
/-- a comprehension of truths, item by item -/
theorem x_lcB {wi : TI} {te : TE} {vs : List Nat} {j : Nat} {Q : VK} {σ : L2.St} {H : Hp} {J : It} {G : Hp → Prop} {xs : List V} (f : Nat → Bool) (hw : ∀ R : It → Hp → Prop, R J H → wi σ H R) (w : Walk J xs.length G (YAt xs)) (hn : xs.length ≤ 100000)
    (hG : ∀ H', Same H H' → G H') (hv : ∀ x, wipe ((wipe σ vs).set j (some x)) vs = wipe σ vs)
    (he : ∀ (i : Nat) x H', Same H H' → xs[i]? = some x → ∀ R : VK, (∀ H2, Same H' H2 → R (.bl (f i)) H2) → te ((wipe σ vs).set j (some x)) H' R)
    (hd : ∀ p H', H p = none → Same H H' → H' p = some (.lst (((List.range xs.length).map f).map V.bl)) → Q (.ref p) H') : tLc wi (gName j) tYes te vs σ H Q := by
  refine x_lcI hw w (fun p i H' => Same H H' ∧ H' p = some (.lst (((List.range i).map f).map V.bl))) (fun p hp => ⟨same_upd hp, upd_same⟩) (fun p i H' _ _ z => hG H' z.1) ?_ (fun x σ' H' R R' hr h => hr _ _ h) fun p H' hp z => hd p H' hp z.1 z.2
  rintro p i x H' H2 hi hp ⟨hs, hl⟩ ⟨rfl, hx⟩
  refine x_gName ⟨hv x, he i x _ hs hx _ fun H3 hs3 => ?_⟩
  refine ⟨_, hs3 _ _ hl, lt_line (by simp; omega), sput (hs.trans hs3) hp, ?_⟩
  rw [upd_same, List.range_succ, List.map_append, List.map_append]
  rfl
theorem x_all {K : PySem.W.Frag} {Q : VK} {H : Hp} {p : Addr} {bs : List Bool} (h : H p = some (.lst (bs.map V.bl))) (q : Q (.bl (bs.all id)) H) : rAll K [.ref p] H Q := ⟨p, bs, rfl, sq_of h, q⟩
theorem x_any {K : PySem.W.Frag} {Q : VK} {H : Hp} {p : Addr} {bs : List Bool} (h : H p = some (.lst (bs.map V.bl))) (q : Q (.bl (bs.any id)) H) : rAny K [.ref p] H Q := ⟨p, bs, rfl, sq_of h, q⟩
theorem all_range {n : Nat} {f : Nat → Bool} (h : ∀ i, i < n → f i = true) : ((List.range n).map f).all id = true := by
  rw [List.all_eq_true]
  intro b hb
  obtain ⟨i, hi, rfl⟩ := List.mem_map.mp hb
  exact h i (List.mem_range.mp hi)
/-- the same, over something made on the way -/
theorem x_lcB0 {wi : TI} {te : TE} {vs : List Nat} {j : Nat} {Q : VK} {σ : L2.St} {H : Hp} {xs : List V} (f : Nat → Bool) (hn : xs.length ≤ 100000)
    (hw : ∀ R : It → Hp → Prop, (∀ (J : It) (G : Hp → Prop) (H1 : Hp), Same H H1 → Walk J xs.length G (YAt xs) → (∀ H', Same H1 H' → G H') → R J H1) → wi σ H R) (hv : ∀ x, wipe ((wipe σ vs).set j (some x)) vs = wipe σ vs)
    (he : ∀ (i : Nat) x H', Same H H' → xs[i]? = some x → ∀ R : VK, (∀ H2, Same H' H2 → R (.bl (f i)) H2) → te ((wipe σ vs).set j (some x)) H' R)
    (hd : ∀ p H', Same H H' → H' p = some (.lst (((List.range xs.length).map f).map V.bl)) → Q (.ref p) H') : tLc wi (gName j) tYes te vs σ H Q := by
  refine hw _ fun J G H1 s1 w hG => ?_
  exact x_lcB (wi := fun _ H R => R J H) (H := H1) f (fun R r => r) w hn hG hv (fun i x H' s hx R hR => he i x H' (s1.trans s) hx R hR) fun p H' _ s h => hd p H' (s1.trans s) h
end Br

/-! ### what `_law_equal` finds alike -/
namespace Br
open PySem PySem.Spec PyProof.Rows L2
/-- alike up to a depth -/
def Eqv (K : PySem.W.Frag) (H : Hp) : Nat → V → V → Prop
  | 0, _, _ => False
  | n + 1, v, u => (∃ i : Int, v = .int i ∧ u = .int i) ∨ (∃ x : Str, v = .str x ∧ u = .str x) ∨ (∃ b : Bool, v = .bl b ∧ u = .bl b) ∨ (v = .non ∧ u = .non) ∨
      (∃ (a b : Addr) (xs ys : List V), v = .ref a ∧ u = .ref b ∧ ((H a = some (.lst xs) ∧ H b = some (.lst ys)) ∨ (H a = some (.tup xs) ∧ H b = some (.tup ys))) ∧ xs.length = ys.length ∧ ys.length ≤ 100000 ∧ ∀ (i : Nat) x y, xs[i]? = some x → ys[i]? = some y → Eqv K H n x y)
theorem Eqv.mono {K : PySem.W.Frag} {H : Hp} : ∀ {n m : Nat} {v u : V}, n ≤ m → Eqv K H n v u → Eqv K H m v u
  | 0, _, _, _, _, h => h.elim
  | n + 1, m, v, u, hm, h => by
    obtain ⟨k, rfl⟩ : ∃ k, m = k + 1 := ⟨m - 1, by omega⟩
    rcases h with h | h | h | h | ⟨a, b, xs, ys, e1, e2, e3, e4, e5, e6⟩
    · exact .inl h
    · exact .inr (.inl h)
    · exact .inr (.inr (.inl h))
    · exact .inr (.inr (.inr (.inl h)))
    · exact .inr (.inr (.inr (.inr ⟨a, b, xs, ys, e1, e2, e3, e4, e5, fun i x y h1 h2 => Eqv.mono (by omega) (e6 i x y h1 h2)⟩)))
theorem Eqv.int {K : PySem.W.Frag} {H : Hp} {n : Nat} {i : Int} : Eqv K H (n + 1) (.int i) (.int i) := .inl ⟨i, rfl, rfl⟩
theorem Eqv.str {K : PySem.W.Frag} {H : Hp} {n : Nat} {x : Str} : Eqv K H (n + 1) (.str x) (.str x) := .inr (.inl ⟨x, rfl, rfl⟩)
theorem Eqv.bl {K : PySem.W.Frag} {H : Hp} {n : Nat} {b : Bool} : Eqv K H (n + 1) (.bl b) (.bl b) := .inr (.inr (.inl ⟨b, rfl, rfl⟩))
theorem Eqv.non {K : PySem.W.Frag} {H : Hp} {n : Nat} : Eqv K H (n + 1) .non .non := .inr (.inr (.inr (.inl ⟨rfl, rfl⟩)))
theorem Eqv.tup {K : PySem.W.Frag} {H : Hp} {n : Nat} {a b : Addr} {xs ys : List V} (h1 : H a = some (.tup xs)) (h2 : H b = some (.tup ys)) (hl : xs.length = ys.length) (hz : ys.length ≤ 100000) (h : ∀ (i : Nat) x y, xs[i]? = some x → ys[i]? = some y → Eqv K H n x y) : Eqv K H (n + 1) (.ref a) (.ref b) :=
  .inr (.inr (.inr (.inr ⟨a, b, xs, ys, rfl, rfl, .inr ⟨h1, h2⟩, hl, hz, h⟩)))
theorem Eqv.lst {K : PySem.W.Frag} {H : Hp} {n : Nat} {a b : Addr} {xs ys : List V} (h1 : H a = some (.lst xs)) (h2 : H b = some (.lst ys)) (hl : xs.length = ys.length) (hz : ys.length ≤ 100000) (h : ∀ (i : Nat) x y, xs[i]? = some x → ys[i]? = some y → Eqv K H n x y) : Eqv K H (n + 1) (.ref a) (.ref b) :=
  .inr (.inr (.inr (.inr ⟨a, b, xs, ys, rfl, rfl, .inl ⟨h1, h2⟩, hl, hz, h⟩)))
theorem Eqv.ints {K : PySem.W.Frag} {H : Hp} {n : Nat} {a b : Addr} {xs : List Int} (h1 : H a = some (.lst (xs.map V.int))) (h2 : H b = some (.lst (xs.map V.int))) (hz : xs.length ≤ 100000) : Eqv K H (n + 2) (.ref a) (.ref b) :=
  Eqv.lst h1 h2 rfl (by rw [List.length_map]; exact hz) fun i x y e1 e2 => by
    rw [e1] at e2
    cases e2
    obtain ⟨z, _, rfl⟩ := map_get e1
    exact .int
/-- a tuple of few parts is alike to itself -/
theorem Eqv.self2 {K : PySem.W.Frag} {H : Hp} {n : Nat} {a : Addr} {xs : List V} (h1 : H a = some (.tup xs)) (hz : xs.length ≤ 100000) (h : ∀ x, x ∈ xs → Eqv K H n x x) : Eqv K H (n + 1) (.ref a) (.ref a) :=
  Eqv.tup h1 h1 rfl hz fun i x y e1 e2 => by
    rw [e1] at e2
    cases e2
    exact h x (List.mem_of_getElem? e1)
end Br

/-! ### max(xs, default=d) -/
namespace Br
open PySem PySem.Spec PyProof.Rows L2
theorem max_rawD {prog : Program} {w : World} {A : Around} {E : Value → Shared → Prop} {s : Shared} {l : Addr} {its : List Value} {ns : List Int} {d : Value} {Q : Value → Shared → Prop} (hh : A.handled = none) (hl : s.heap.IsList l its.toArray) (hi : IntsAre its ns)
    (h0 : ns = [] → ∀ h' tk, (∀ b o, s.heap.get? b = some o → h'.get? b = some o) → Q d { s with heap := h', toks := tk })
    (h : ∀ h' tk M t', (∀ b o, s.heap.get? b = some o → h'.get? b = some o) → M ∈ ns → (∀ a, a ∈ ns → a ≤ M) → Q (.int M t') { s with heap := h', toks := tk }) : wpAny (model prog w) A (call (.builtin "max") [.ref l] [(Str.ofString "default", d)]) Q E s := by
  obtain ⟨xs, e⟩ := hi.allInts.items
  have hn : numsOf (intItems xs).toList = ns := by rw [← e]; exact hi.numsOf
  rw [nums_intItems] at hn
  subst hn
  rw [e] at hl
  refine call_max_walkD (iter_intList hl fun s₂ e2 st hfp hlI => ?_)
  have keep : ∀ {s' : Shared}, Moved [s.heap.objs.size] (fun a b => b = a) s₂ s' → (∀ b o, s.heap.get? b = some o → s'.heap.get? b = some o) ∧ s' = { s with heap := s'.heap, toks := s'.toks } := by
    intro s' m
    subst e2
    refine ⟨fun b o eb => m.heap b o (fun hb => ?_) (Heap.get?_push_of_some _ eb), ?_⟩
    · have : b = s.heap.objs.size := by simpa using hb
      exact absurd (Heap.lt_size eb) (by rw [this]; exact Nat.lt_irrefl _)
    · have h1 := m.gens
      have h2 := m.drawn
      have h3 := m.os
      cases s'
      cases s
      simp at h1 h2 h3 ⊢
      exact ⟨h1, h2, h3⟩
  refine ⟨_, _, _, _, _, _, _, s.heap, fun i j => decide (numAt xs i > numAt xs j), rfl, (Walks.list (A := A.in1) hh _ l hlI (intItems xs)).toS, st, hfp, ?_, ?_, ?_, ?_⟩
  · intro b o eb hb
    have : b = s.heap.objs.size := by simpa using hb
    exact absurd (Heap.lt_size eb) (by rw [this]; exact Nat.lt_irrefl _)
  · intro b o eb
    subst e2
    exact Heap.get?_push_of_some _ eb
  · intro hz s' m
    obtain ⟨k1, k2⟩ := keep m
    rw [k2]
    refine h0 ?_ _ _ k1
    have : xs.size = 0 := by simpa [intItems] using hz
    have : xs = #[] := Array.eq_empty_of_size_eq_zero this
    rw [this]
    rfl
  · intro hz
    have hsz : 0 < xs.size := by simpa [intItems] using hz
    refine ⟨fun i j vi vj s' Q' E' _ h1 h2 h3 => CmpOf.ints_gt (numAt xs) (fun _ _ => intItems_at) i j vi vj s' Q' E' h1 h2 h3, fun v s' hP m => ?_⟩
    obtain ⟨k1, k2⟩ := keep m
    rw [k2]
    have hP : (intItems xs)[argBest (fun i j => decide (numAt xs i > numAt xs j)) (xs.size - 1)]? = some v := by simpa [intItems] using hP
    obtain ⟨t, rfl⟩ := intItems_at hP
    obtain ⟨h1, h2⟩ := argBest_gt (numAt xs) (xs.size - 1)
    refine h _ _ _ t k1 ?_ fun a ha => ?_
    · rw [numAt_eq]; exact PySem.getD_mem (by rw [List.length_map, Array.length_toList]; omega)
    · obtain ⟨j, hj, rfl⟩ := mem_getD ha
      rw [List.length_map, Array.length_toList] at hj
      rw [← numAt_eq]; exact h2 j (by omega)
/-- max(xs, default=z): z the default -/
def rMaxDf (K : PySem.W.Frag) : List V → List V → Hp → VK → Prop := fun vs zs H Q => ∃ (a : Addr) (ns : List Int) (d : Int), vs = [V.ref a] ∧ zs = [.int d] ∧ SqL K H a (ns.map V.int) ∧ (ns = [] → Q (.int d) H) ∧ ∀ m, m ∈ ns → (∀ y, y ∈ ns → y ≤ m) → Q (.int m) H
theorem cr_maxDf {X : Cx} (hc : X.calm = true) : CallRK X (.builtin "max") [Str.ofString "default"] (rMaxDf X.K) := by
  intro pins s σ H xs zs us ws Q I r1 r2 h
  obtain ⟨a, ns, d, rfl, rfl, hs, q0, q⟩ := h
  obtain ⟨its, rv, hl, _⟩ := I.list hs
  rw [Vals.ref1 r1]
  cases r2 with
  | cons rz rr =>
    cases rr
    exact max_rawD (I.ok.hd hc) hl.isList rv.ints (fun e h' tk hk => ⟨.int d, H, I.kept hk, rz, q0 e⟩) fun h' tk m t' hk h1 h2 => ⟨.int _, H, I.kept hk, ⟨_, rfl⟩, q m h1 h2⟩
theorem x_maxDf {K : PySem.W.Frag} {σ : L2.St} {H : Hp} {Q : VK} {t tk : TA} (h : t σ H fun vs H1 => tk σ H1 fun zs H2 => rMaxDf K vs zs H2 Q) : tCKw (rMaxDf K) t tk σ H Q := h
/-- what is walked within a comprehension, the written part named -/
theorem pi_tupK {X : Cx} {tg : Expr} {K2 : PySem.W.Frag} {l : Expr} {tl : TE} (hK : X.K = K2) (hl : PE X l tl) : PI X tg l (iTup K2 tl) := by
  subst hK
  exact pi_tup hl
theorem pi_listK {X : Cx} {tg : Expr} {K2 : PySem.W.Frag} {l : Expr} {tl : TE} (hK : X.K = K2) (hl : PE X l tl) : PI X tg l (iList K2 tl) := by
  subst hK
  exact pi_list hl
theorem x_maxDfP {K : PySem.W.Frag} {H : Hp} {Q : VK} {a : Addr} {ns : List Int} {d : Int} (hs : SqL K H a (ns.map V.int)) (h : ∀ m, (ns = [] ∧ m = d) ∨ (m ∈ ns ∧ ∀ y, y ∈ ns → y ≤ m) → Q (.int m) H) : rMaxDf K [.ref a] [.int d] H Q :=
  ⟨a, ns, d, rfl, rfl, hs, fun e => h d (.inl ⟨e, rfl⟩), fun m h1 h2 => h m (.inr ⟨h1, h2⟩)⟩
end Br

/-! ### data of any kind in the heap, apart from one list -/
namespace Br
open PySem PySem.Spec PyProof.Rows L2
mutual
inductive DAt (d : Addr) (H : Hp) : V → PyData → Prop
  | non : DAt d H .non .none
  | bl (b : Bool) : DAt d H (.bl b) (.bool b)
  | int (i : Int) : DAt d H (.int i) (.int i)
  | str (x : Str) : DAt d H (.str x) (.str x)
  | lst {a : Addr} {xs : List V} {ds : List PyData} (hd : a ≠ d) (h : H a = some (.lst xs)) (hs : DAts d H xs ds) : DAt d H (.ref a) (.list ds)
  | tup {a : Addr} {xs : List V} {ds : List PyData} (h : H a = some (.tup xs)) (hs : DAts d H xs ds) : DAt d H (.ref a) (.tuple ds)
inductive DAts (d : Addr) (H : Hp) : List V → List PyData → Prop
  | nil : DAts d H [] []
  | cons {v : V} {vs : List V} {e : PyData} {es : List PyData} (h : DAt d H v e) (hs : DAts d H vs es) : DAts d H (v :: vs) (e :: es)
end
section
variable {d : Addr} {H H' : Hp}
theorem DAts.len : ∀ {xs : List V} {ds : List PyData}, DAts d H xs ds → xs.length = ds.length
  | [], _, h => by cases h; rfl
  | _ :: xs, _, h => by
    cases h with
    | cons h hs => exact congrArg (· + 1) hs.len
theorem DAts.get : ∀ {xs : List V} {ds : List PyData}, DAts d H xs ds → ∀ {i : Nat} {x : V}, xs[i]? = some x → ∃ e, ds[i]? = some e ∧ DAt d H x e
  | [], _, _, i, x, e => by simp at e
  | v :: xs, _, h, i, x, e => by
    cases h with
    | cons h hs =>
      cases i with
      | zero => cases e; exact ⟨_, rfl, h⟩
      | succ i => exact hs.get (i := i) (by simpa using e)
theorem DAts.of : ∀ {xs : List V} {ds : List PyData}, xs.length = ds.length → (∀ (i : Nat) x e, xs[i]? = some x → ds[i]? = some e → DAt d H x e) → DAts d H xs ds
  | [], [], _, _ => .nil
  | v :: xs, e :: ds, hl, h => .cons (h 0 v e rfl rfl) (DAts.of (by simpa using hl) fun i x f h1 h2 => h (i + 1) x f (by simpa using h1) (by simpa using h2))
  | [], _ :: _, hl, _ => by simp at hl
  | _ :: _, [], hl, _ => by simp at hl
theorem DAts.snoc : ∀ {xs : List V} {ds : List PyData} {v : V} {e : PyData}, DAts d H xs ds → DAt d H v e → DAts d H (xs ++ [v]) (ds ++ [e])
  | [], _, v, e, h, h1 => by cases h; exact .cons h1 .nil
  | _ :: xs, _, v, e, h, h1 => by
    cases h with
    | cons h hs => exact .cons h (hs.snoc h1)
theorem DAts.app : ∀ {xs ys : List V} {ds es : List PyData}, DAts d H xs ds → DAts d H ys es → DAts d H (xs ++ ys) (ds ++ es)
  | [], _, _, _, h, h1 => by cases h; exact h1
  | _ :: xs, _, _, _, h, h1 => by
    cases h with
    | cons h hs => exact .cons h (hs.app h1)
mutual
theorem DAt.keep (hd : ∃ ys, H d = some (.lst ys)) (k : Keep d H H') : ∀ (e : PyData) {v : V}, DAt d H v e → DAt d H' v e
  | .none, _, h => by cases h; exact .non
  | .bool b, _, h => by cases h; exact .bl b
  | .int i, _, h => by cases h; exact .int i
  | .str x, _, h => by cases h; exact .str x
  | .list ds, _, h => by
    cases h with
    | lst hn h hs => exact .lst hn (k _ _ h hn) (DAts.keep hd k ds hs)
  | .tuple ds, _, h => by
    obtain ⟨ys, hd'⟩ := id hd
    cases h with
    | tup h hs => exact .tup (k _ _ h (ne_of h hd' (by intro z; cases z))) (DAts.keep hd k ds hs)
  | .dict _, _, h => by cases h
theorem DAts.keep (hd : ∃ ys, H d = some (.lst ys)) (k : Keep d H H') : ∀ (es : List PyData) {vs : List V}, DAts d H vs es → DAts d H' vs es
  | [], _, h => by cases h; exact .nil
  | e :: es, _, h => by
    cases h with
    | cons h hs => exact .cons (DAt.keep hd k e h) (DAts.keep hd k es hs)
end
mutual
theorem DAt.same (k : Same H H') : ∀ (e : PyData) {v : V}, DAt d H v e → DAt d H' v e
  | .none, _, h => by cases h; exact .non
  | .bool b, _, h => by cases h; exact .bl b
  | .int i, _, h => by cases h; exact .int i
  | .str x, _, h => by cases h; exact .str x
  | .list ds, _, h => by
    cases h with
    | lst hn h hs => exact .lst hn (k _ _ h) (DAts.same k ds hs)
  | .tuple ds, _, h => by
    cases h with
    | tup h hs => exact .tup (k _ _ h) (DAts.same k ds hs)
  | .dict _, _, h => by cases h
theorem DAts.same (k : Same H H') : ∀ (es : List PyData) {vs : List V}, DAts d H vs es → DAts d H' vs es
  | [], _, h => by cases h; exact .nil
  | e :: es, _, h => by
    cases h with
    | cons h hs => exact .cons (DAt.same k e h) (DAts.same k es hs)
end
theorem DAts.ints : ∀ {ns : List Int}, DAts d H (ns.map V.int) (ns.map PyData.int)
  | [] => .nil
  | i :: ns => .cons (.int i) DAts.ints
theorem DAts.bls : ∀ {bs : List Bool}, DAts d H (bs.map V.bl) (bs.map PyData.bool)
  | [] => .nil
  | b :: bs => .cons (.bl b) DAts.bls
/-- is it an integer from 0 to b - 1 -/
def isBD (b : Int) : PyData → Bool
  | .int i => decide (0 ≤ i) && decide (i < b)
  | _ => false
theorem isBD_iff {b : Int} {e : PyData} : isBD b e = true ↔ ∃ i, e = .int i ∧ 0 ≤ i ∧ i < b := by
  cases e with
  | int i =>
    show (decide (0 ≤ i) && decide (i < b)) = true ↔ _
    rw [Bool.and_eq_true, decide_eq_true_iff, decide_eq_true_iff]
    exact ⟨fun h => ⟨i, rfl, h⟩, fun ⟨j, e, h⟩ => by cases e; exact h⟩
  | _ => exact ⟨fun h => (by cases h), fun h => (by obtain ⟨_, h, _⟩ := h; cases h)⟩
def isBlD : PyData → Bool
  | .bool _ => true
  | _ => false
end
end Br

/-! ### gates as data, and what they do -/
namespace Br
open PySem PySem.Spec PyProof.Rows L2
abbrev Gt := Nat × List Nat
def perfG (bs : List Bool) (g : Gt) : List Bool := if g.2.all (fun c => bs.getD c false) then bs.set g.1 (!bs.getD g.1 false) else bs
def perfF (gs : List Gt) (bs : List Bool) : List Bool := gs.foldl perfG bs
structure GtOk (n : Nat) (g : Gt) : Prop where
  t : g.1 < n
  c : ∀ x, x ∈ g.2 → x < n
  ne : g.1 ∉ g.2
  up : g.2.Pairwise (· < ·)
theorem GtOk.mono {n m : Nat} {g : Gt} (h : GtOk n g) (l : n ≤ m) : GtOk m g := ⟨Nat.lt_of_lt_of_le h.t l, fun x hx => Nat.lt_of_lt_of_le (h.c x hx) l, h.ne, h.up⟩
theorem perfG_len {bs : List Bool} {g : Gt} : (perfG bs g).length = bs.length := by
  unfold perfG
  split
  · rw [List.length_set]
  · rfl
theorem perfF_len : ∀ {gs : List Gt} {bs : List Bool}, (perfF gs bs).length = bs.length
  | [], _ => rfl
  | g :: gs, bs => (perfF_len (gs := gs) (bs := perfG bs g)).trans perfG_len
theorem perfF_snoc {gs : List Gt} {g : Gt} {bs : List Bool} : perfF (gs ++ [g]) bs = perfG (perfF gs bs) g := by
  unfold perfF
  rw [List.foldl_append]
  rfl
theorem getD_setB {bs : List Bool} {i j : Nat} {b : Bool} (h : i ≠ j) : (bs.set i b).getD j false = bs.getD j false := by
  rw [List.getD_eq_getElem?_getD, List.getD_eq_getElem?_getD, List.getElem?_set_ne h]
theorem perfG_twice {n : Nat} {bs : List Bool} {g : Gt} (ok : GtOk n g) (hn : n ≤ bs.length) : perfG (perfG bs g) g = bs := by
  have ht := Nat.lt_of_lt_of_le ok.t hn
  by_cases h : g.2.all (fun c => bs.getD c false) = true
  · have e : perfG bs g = bs.set g.1 (!bs.getD g.1 false) := by unfold perfG; rw [if_pos h]
    rw [e]
    unfold perfG
    rw [if_pos]
    · apply List.ext_getElem?
      intro j
      by_cases hj : g.1 = j
      · subst hj
        have h1 : g.1 < (bs.set g.1 (!bs.getD g.1 false)).length := by rw [List.length_set]; exact ht
        rw [List.getElem?_set_self h1, List.getD_eq_getElem?_getD (l := bs.set _ _), List.getElem?_set_self ht, List.getD_eq_getElem?_getD, List.getElem?_eq_getElem ht]
        simp
      · rw [List.getElem?_set_ne hj, List.getElem?_set_ne hj]
    · rw [List.all_eq_true] at h ⊢
      intro c hc
      rw [getD_setB (fun e => ok.ne (by rw [e]; exact hc))]
      exact h c hc
  · have e : perfG bs g = bs := by unfold perfG; rw [if_neg h]
    rw [e, e]
theorem perfF_rev {n : Nat} : ∀ {gs : List Gt} {bs : List Bool}, (∀ g, g ∈ gs → GtOk n g) → n ≤ bs.length → perfF gs.reverse (perfF gs bs) = bs
  | [], _, _, _ => rfl
  | g :: gs, bs, ok, hn => by
    rw [List.reverse_cons, perfF_snoc]
    show perfG (perfF gs.reverse (perfF gs (perfG bs g))) g = bs
    rw [perfF_rev (fun x hx => ok x (List.mem_cons_of_mem _ hx)) (by rw [perfG_len]; exact hn)]
    exact perfG_twice (ok g List.mem_cons_self) hn
def cInts (cs : List Nat) : List V := cs.map fun (c : Nat) => V.int (c : Int)
def GtAt (H : Hp) (a : Addr) (g : Gt) : Prop := ∃ c : Addr, H a = some (.tup [.int (g.1 : Int), .ref c]) ∧ H c = some (.tup (cInts g.2))
def gtD (g : Gt) : PyData := .tuple [.int (g.1 : Int), .tuple (g.2.map fun (c : Nat) => PyData.int (c : Int))]
theorem GtAt.tups {H H' : Hp} {a : Addr} {g : Gt} (h : GtAt H a g) (k : ∀ b xs, H b = some (.tup xs) → H' b = some (.tup xs)) : GtAt H' a g := by
  obtain ⟨c, h1, h2⟩ := h
  exact ⟨c, k _ _ h1, k _ _ h2⟩
theorem cInts_at {d : Addr} {H : Hp} : ∀ {cs : List Nat}, DAts d H (cInts cs) (cs.map fun (c : Nat) => PyData.int (c : Int))
  | [] => .nil
  | c :: cs => .cons (.int _) cInts_at
theorem GtAt.dat {d a : Addr} {H : Hp} {g : Gt} (h : GtAt H a g) : DAt d H (.ref a) (gtD g) := by
  obtain ⟨c, h1, h2⟩ := h
  exact .tup h1 (.cons (.int _) (.cons (.tup h2 cInts_at) .nil))
/-- rising bits below 120, behind the last one -/
def risF : Int → List PyData → Bool
  | _, [] => true
  | l, .int i :: es => (decide (0 ≤ i) && decide (i < 120)) && (decide (l < i) && risF i es)
  | _, _ :: _ => false
def risD : PyData → Bool
  | .tuple es => risF (-1) es
  | _ => false
def hasD (e : PyData) (es : List PyData) : Bool := es.any fun x => match x, e with | .int i, .int j => decide (i = j) | _, _ => false
def gateD : PyData → Bool
  | .tuple [t, .tuple es] => isBD 120 t && (risF (-1) es && !hasD t es)
  | _ => false
def gatesD : PyData → Bool
  | .list es => decide (es.length ≤ 60000) && es.all gateD
  | _ => false
theorem risF_ok : ∀ {cs : List Nat} {l : Int}, cs.Pairwise (· < ·) → (∀ c, c ∈ cs → c < 120 ∧ l < (c : Int)) → risF l (cs.map fun (c : Nat) => PyData.int (c : Int)) = true
  | [], _, _, _ => rfl
  | c :: cs, l, hp, h => by
    obtain ⟨h1, h2⟩ := h c List.mem_cons_self
    show ((decide (0 ≤ (c : Int)) && decide ((c : Int) < 120)) && (decide (l < (c : Int)) && _)) = true
    rw [decide_eq_true (by omega), decide_eq_true (by omega), decide_eq_true h2]
    rw [List.pairwise_cons] at hp
    exact risF_ok hp.2 fun x hx => ⟨(h x (List.mem_cons_of_mem _ hx)).1, by have := hp.1 x hx; omega⟩
theorem gateD_ok {g : Gt} (ok : GtOk 120 g) : gateD (gtD g) = true := by
  show (isBD 120 (.int (g.1 : Int)) && (risF (-1) (g.2.map fun (c : Nat) => PyData.int (c : Int)) && !hasD (.int (g.1 : Int)) (g.2.map fun (c : Nat) => PyData.int (c : Int)))) = true
  have h1 : isBD 120 (.int (g.1 : Int)) = true := isBD_iff.mpr ⟨_, rfl, by omega, by have := ok.t; omega⟩
  have h2 := risF_ok (l := -1) ok.up fun c hc => ⟨ok.c c hc, by omega⟩
  have h3 : hasD (.int (g.1 : Int)) (g.2.map fun (c : Nat) => PyData.int (c : Int)) = false := by
    unfold hasD
    rw [List.any_eq_false]
    intro x hx
    obtain ⟨c, hc, rfl⟩ := List.mem_map.mp hx
    have hne : (c : Int) ≠ (g.1 : Int) := fun e => ok.ne (by have : c = g.1 := by omega
                                                             rw [← this]; exact hc)
    show ¬ decide ((c : Int) = (g.1 : Int)) = true
    rw [decide_eq_false hne]
    decide
  rw [h1, h2, h3]
  rfl
/-- the bits that a gate touches -/
def topG (g : Gt) : Nat := g.2.foldr max g.1 + 1
theorem foldr_max {cs : List Nat} {t : Nat} : t ≤ cs.foldr max t ∧ (∀ c, c ∈ cs → c ≤ cs.foldr max t) ∧ (cs.foldr max t = t ∨ cs.foldr max t ∈ cs) := by
  induction cs with
  | nil => exact ⟨Nat.le_refl _, fun c h => by simp at h, .inl rfl⟩
  | cons c cs ih =>
    obtain ⟨h1, h2, h3⟩ := ih
    show t ≤ max c _ ∧ _ ∧ _
    refine ⟨by omega, fun x hx => ?_, ?_⟩
    · rcases List.mem_cons.mp hx with rfl | hx
      · exact Nat.le_max_left _ _
      · exact Nat.le_trans (h2 x hx) (Nat.le_max_right _ _)
    · show max c _ = t ∨ max c _ ∈ _
      rcases Nat.le_total c (cs.foldr max t) with h | h
      · rw [Nat.max_eq_right h]
        rcases h3 with h3 | h3
        · exact .inl h3
        · exact .inr (List.mem_cons_of_mem _ h3)
      · rw [Nat.max_eq_left h]
        exact .inr List.mem_cons_self
theorem topG_le {n : Nat} {g : Gt} (ok : GtOk n g) : topG g ≤ n := by
  unfold topG
  rcases (foldr_max (cs := g.2) (t := g.1)).2.2 with h | h
  · rw [h]; exact ok.t
  · exact ok.c _ h
theorem up_len {n : Nat} : ∀ {cs : List Nat} {l : Nat}, cs.Pairwise (· < ·) → (∀ c, c ∈ cs → l ≤ c ∧ c < n) → cs.length ≤ n - l
  | [], _, _, _ => Nat.zero_le _
  | c :: cs, l, hp, h => by
    rw [List.pairwise_cons] at hp
    obtain ⟨h1, h2⟩ := h c List.mem_cons_self
    have := up_len (l := c + 1) hp.2 fun x hx => ⟨hp.1 x hx, (h x (List.mem_cons_of_mem _ hx)).2⟩
    rw [List.length_cons]
    omega
theorem GtOk.len {n : Nat} {g : Gt} (h : GtOk n g) : g.2.length ≤ n := by
  have := up_len (l := 0) h.up fun c hc => ⟨Nat.zero_le _, h.c c hc⟩
  omega
theorem cInts_get {cs : List Nat} {i : Nat} {x : V} (hx : (cInts cs)[i]? = some x) : ∃ m : Nat, cs[i]? = some m ∧ x = .int (m : Int) := by
  unfold cInts at hx
  rw [List.getElem?_map] at hx
  cases e : cs[i]? with
  | none => rw [e] at hx; cases hx
  | some n => rw [e] at hx; exact ⟨n, rfl, (Option.some.inj hx).symm⟩
end Br

/-! ### bits, many gates; comprehensions with a test -/
namespace Br
open PySem PySem.Spec PyProof.Rows L2
theorem x_max {σ : L2.St} {H : Hp} {Q : VK} {K : PySem.W.Frag} {p : Addr} {ns : List Int} (hp : SqL K H p (ns.map V.int)) (h0 : 0 < ns.length) (q : ∀ m, m ∈ ns → (∀ y, y ∈ ns → y ≤ m) → Q (.int m) H) : rMax K [.ref p] H Q := ⟨p, ns, rfl, hp, h0, q⟩
theorem cInts_eq {cs : List Nat} : cInts cs = (cs.map fun (c : Nat) => (c : Int)).map V.int := by
  unfold cInts
  rw [List.map_map]
  rfl
theorem x_listT {K : PySem.W.Frag} {H : Hp} {Q : VK} {p : Addr} {xs : List V} (hp : SqT K H p xs) (q : ∀ l, H l = none → Q (.ref l) (L2.upd H l (.lst xs))) : rListOf K [.ref p] H Q := ⟨p, xs, rfl, .inr hp, q⟩
def bls (bs : List Bool) : List V := bs.map V.bl
theorem bls_get {bs : List Bool} {i : Nat} (h : i < bs.length) : (bls bs)[i]? = some (.bl (bs.getD i false)) := by
  unfold bls
  rw [List.getElem?_map, List.getElem?_eq_getElem h, List.getD_eq_getElem?_getD, List.getElem?_eq_getElem h]
  rfl
theorem bls_set {bs : List Bool} {i : Nat} {b : Bool} : (bls bs).set i (.bl b) = bls (bs.set i b) := by
  unfold bls
  rw [List.map_set]
theorem bls_len {bs : List Bool} : (bls bs).length = bs.length := by unfold bls; rw [List.length_map]
/-- many gates -/
def GtsAt (H : Hp) (as : List Addr) (gs : List Gt) : Prop := as.length = gs.length ∧ ∀ (i : Nat) x b, gs[i]? = some x → as[i]? = some b → GtAt H b x
theorem GtsAt.tups {H H' : Hp} {as : List Addr} {gs : List Gt} (h : GtsAt H as gs) (k : ∀ b xs, H b = some (.tup xs) → H' b = some (.tup xs)) : GtsAt H' as gs := ⟨h.1, fun i x b e1 e2 => (h.2 i x b e1 e2).tups k⟩
theorem GtsAt.get {H : Hp} {as : List Addr} {gs : List Gt} (h : GtsAt H as gs) {i : Nat} {b : Addr} (e : as[i]? = some b) : ∃ x, gs[i]? = some x ∧ GtAt H b x := by
  have hl := (List.getElem?_eq_some_iff.mp e).1
  have hl2 : i < gs.length := by rw [← h.1]; exact hl
  exact ⟨_, List.getElem?_eq_getElem hl2, h.2 i _ b (List.getElem?_eq_getElem hl2) e⟩
theorem take_snocG {α : Type} {ss : List α} {i : Nat} {s : α} (h : ss[i]? = some s) : ss.take (i + 1) = ss.take i ++ [s] := by rw [List.take_add_one, h]; rfl
/-- a comprehension over a tuple, with a test, that keeps the items that meet it -/
theorem x_lcTT {K : PySem.W.Frag} {σ : L2.St} {H : Hp} {Q : VK} {ta : TE} {tt : TT} {te : TE} {j : Nat} {vs : List Nat} {a : Addr} (xs : List V) (P : Addr → Nat → Hp → Prop) (hn : ∀ R : V → Hp → Prop, R (.ref a) H → ta σ H R) (ha : SqT K H a xs) (h0 : ∀ p, H p = none → P p 0 (L2.upd H p (.lst [])))
    (hl : ∀ p i H', H p = none → i ≤ xs.length → P p i H' → SqT K H' a xs) (hw : ∀ x, wipe ((wipe σ vs).set j (some x)) vs = wipe σ vs)
    (hs : ∀ p (i : Nat) x H', H p = none → xs[i]? = some x → P p i H' → tt ((wipe σ vs).set j (some x)) H' fun b H3 => if b = true then te ((wipe σ vs).set j (some x)) H3 fun y H4 => ∃ acc, H4 p = some (.lst acc) ∧ acc.length < sizeLine ∧ P p (i + 1) (L2.upd H4 p (.lst (acc ++ [y]))) else P p (i + 1) H3)
    (hd : ∀ p H', H p = none → P p xs.length H' → Q (.ref p) H') : tLc (iTup K ta) (gName j) tt te vs σ H Q := by
  refine hn _ ⟨a, rfl, ⟨xs, ha⟩, fun p hp => ?_⟩
  refine lc_tup (xs := xs) (Qd := fun H' => Q (.ref p) H') (P p) (h0 p hp) (fun i H' hi q => hl p i H' hp hi q) (fun i x H' hi q => ?_) fun H' q => hd p H' hp q
  exact ⟨hw _, hs p i x H' hp hi q⟩
theorem x_lcPreT {σ : L2.St} {H : Hp} {Q : VK} {ta : TE} {j : Nat} {tt : TT} {te : TE} {vs : List Nat} (h : ta σ H fun v H1 => tLc (iRng1 (tCons (tC v) tNil)) (gName j) tt te vs σ H1 Q) : tLc (iRng1 (tCons ta tNil)) (gName j) tt te vs σ H Q := h
/-- a comprehension over a range, with a test -/
theorem x_lcRT {σ : L2.St} {H : Hp} {Q : VK} {ta : TE} {tt : TT} {j : Nat} {te : TE} {vs : List Nat} (n : Int) (P : Addr → Nat → Hp → Prop) (hn : ∀ R : V → Hp → Prop, R (.int n) H → ta σ H R) (h1 : -(2 ^ 62) ≤ n) (h2 : n < 2 ^ 62) (h0 : ∀ p, H p = none → P p 0 (L2.upd H p (.lst [])))
    (hw : ∀ x, wipe ((wipe σ vs).set j (some x)) vs = wipe σ vs)
    (hs : ∀ p (i : Nat) H', H p = none → (i : Int) < n → P p i H' → tt ((wipe σ vs).set j (some (.int (i : Int)))) H' fun b H3 => if b = true then te ((wipe σ vs).set j (some (.int (i : Int)))) H3 fun y H4 => ∃ acc, H4 p = some (.lst acc) ∧ acc.length < sizeLine ∧ P p (i + 1) (L2.upd H4 p (.lst (acc ++ [y]))) else P p (i + 1) H3)
    (hd : ∀ p H', H p = none → P p n.toNat H' → Q (.ref p) H') : tLc (iRng1 (tCons ta tNil)) (gName j) tt te vs σ H Q := by
  refine hn _ ⟨n, rfl, h1, h2, fun p hp => ?_⟩
  refine lc_range (lo := 0) (Qd := fun H' => Q (.ref p) H') (P p) (h0 p hp) (fun i H' hi q => ?_) fun H' q => hd p H' hp q
  have e : (0 : Int) + (i : Int) = (i : Int) := Int.zero_add _
  rw [e]
  exact ⟨hw _, hs p i H' hp (by omega) q⟩
theorem up_snoc {cs : List Nat} {i : Nat} (h : cs.Pairwise (· < ·)) (hc : ∀ c, c ∈ cs → c < i) : (cs ++ [i]).Pairwise (· < ·) := by
  rw [List.pairwise_append]
  exact ⟨h, List.pairwise_singleton _ _, fun a ha b hb => by rw [List.mem_singleton.mp hb]; exact hc a ha⟩
theorem cInts_snoc {cs : List Nat} {i : Nat} : cInts cs ++ [.int (i : Int)] = cInts (cs ++ [i]) := by unfold cInts; rw [List.map_append]; rfl
theorem cInts_len {cs : List Nat} : (cInts cs).length = cs.length := by unfold cInts; rw [List.length_map]
theorem bls_snoc {bs : List Bool} {b : Bool} : bls bs ++ [.bl b] = bls (bs ++ [b]) := by unfold bls; rw [List.map_append]; rfl
/-- a comprehension of values, item by item -/
theorem x_lcV {wi : TI} {te : TE} {vs : List Nat} {j : Nat} {Q : VK} {σ : L2.St} {H : Hp} {J : It} {G : Hp → Prop} {xs : List V} (f : Nat → V) (hw : ∀ R : It → Hp → Prop, R J H → wi σ H R) (w : Walk J xs.length G (YAt xs)) (hn : xs.length ≤ 100000)
    (hG : ∀ H', Same H H' → G H') (hv : ∀ x, wipe ((wipe σ vs).set j (some x)) vs = wipe σ vs)
    (he : ∀ (i : Nat) x H', Same H H' → xs[i]? = some x → ∀ R : VK, (∀ H2, Same H' H2 → R (f i) H2) → te ((wipe σ vs).set j (some x)) H' R)
    (hd : ∀ p H', H p = none → Same H H' → H' p = some (.lst ((List.range xs.length).map f)) → Q (.ref p) H') : tLc wi (gName j) tYes te vs σ H Q := by
  refine x_lcI hw w (fun p i H' => Same H H' ∧ H' p = some (.lst ((List.range i).map f))) (fun p hp => ⟨same_upd hp, upd_same⟩) (fun p i H' _ _ z => hG H' z.1) ?_ (fun x σ' H' R R' hr h => hr _ _ h) fun p H' hp z => hd p H' hp z.1 z.2
  rintro p i x H' H2 hi hp ⟨hs, hl⟩ ⟨rfl, hx⟩
  refine x_gName ⟨hv x, he i x _ hs hx _ fun H3 hs3 => ?_⟩
  refine ⟨_, hs3 _ _ hl, lt_line (by simp; omega), sput (hs.trans hs3) hp, ?_⟩
  rw [upd_same, List.range_succ, List.map_append]
  rfl
theorem range_map {α β : Type} {ds : List α} {f : α → β} {d : α} : ((List.range ds.length).map fun i => f (ds.getD i d)) = ds.map f := by
  apply List.ext_getElem?
  intro i
  rw [List.getElem?_map, List.getElem?_map]
  by_cases h : i < ds.length
  · rw [List.getElem?_range h, List.getElem?_eq_getElem h]
    show some (f (ds.getD i d)) = some (f ds[i])
    rw [List.getD_eq_getElem?_getD, List.getElem?_eq_getElem h]; rfl
  · rw [List.getElem?_eq_none (by simpa using h), List.getElem?_eq_none (by simpa using h)]
    rfl
theorem getDT {α : Type} {ds : List α} {i : Nat} {e d : α} (h : ds[i]? = some e) : ds.getD i d = e := by rw [List.getD_eq_getElem?_getD, h]; rfl
theorem GtsAt.snoc {H : Hp} {as : List Addr} {gs : List Gt} {b : Addr} {x : Gt} (h : GtsAt H as gs) (hx : GtAt H b x) : GtsAt H (as ++ [b]) (gs ++ [x]) := by
  refine ⟨by rw [List.length_append, List.length_append, h.1]; rfl, fun i y c e1 e2 => ?_⟩
  rcases snoc_at rfl e1 with ⟨h1, e1⟩ | ⟨h1, rfl⟩
  · rcases snoc_at rfl e2 with ⟨h2, e2⟩ | ⟨h2, rfl⟩
    · exact h.2 i y c e1 e2
    · have := h.1; omega
  · rcases snoc_at rfl e2 with ⟨h2, e2⟩ | ⟨h2, rfl⟩
    · have := h.1; omega
    · exact hx
theorem x_lcPreLT {K : PySem.W.Frag} {σ : L2.St} {H : Hp} {Q : VK} {te : TE} {ta : TE} {tt : TT} {j : Nat} {vs : List Nat} (h : ta σ H fun v H1 => tLc (iList K (tC v)) (gName j) tt te vs σ H1 Q) : tLc (iList K ta) (gName j) tt te vs σ H Q := h
/-- a comprehension over a list, with a test -/
theorem x_lcLT {K : PySem.W.Frag} {σ : L2.St} {H : Hp} {Q : VK} {ta : TE} {tt : TT} {te : TE} {j : Nat} {vs : List Nat} {a : Addr} (xs : List V) (P : Addr → Nat → Hp → Prop) (hn : ∀ R : V → Hp → Prop, R (.ref a) H → ta σ H R) (ha : SqL K H a xs) (h0 : ∀ p, H p = none → P p 0 (L2.upd H p (.lst [])))
    (hl : ∀ p i H', H p = none → i ≤ xs.length → P p i H' → SqL K H' a xs) (hw : ∀ x, wipe ((wipe σ vs).set j (some x)) vs = wipe σ vs)
    (hs : ∀ p (i : Nat) x H', H p = none → xs[i]? = some x → P p i H' → tt ((wipe σ vs).set j (some x)) H' fun b H3 => if b = true then te ((wipe σ vs).set j (some x)) H3 fun y H4 => ∃ acc, H4 p = some (.lst acc) ∧ acc.length < sizeLine ∧ P p (i + 1) (L2.upd H4 p (.lst (acc ++ [y]))) else P p (i + 1) H3)
    (hd : ∀ p H', H p = none → P p xs.length H' → Q (.ref p) H') : tLc (iList K ta) (gName j) tt te vs σ H Q := by
  refine hn _ ⟨a, rfl, ⟨xs, ha⟩, fun p hp => ?_⟩
  refine lc_list (xs := xs) (Qd := fun H' => Q (.ref p) H') (P p) (h0 p hp) (fun i H' hi q => hl p i H' hp hi q) (fun i x H' hi q => ?_) fun H' q => hd p H' hp q
  exact ⟨hw _, hs p i x H' hp hi q⟩
def bitsD (n : Int) : PyData → Bool
  | .list es => decide (n ≤ (es.length : Int)) && es.all isBlD
  | _ => false
def blsD (bs : List Bool) : PyData := .list (bs.map PyData.bool)
theorem bitsD_iff {n : Int} {e : PyData} : bitsD n e = true ↔ ∃ bs : List Bool, e = blsD bs ∧ n ≤ (bs.length : Int) := by
  constructor
  · intro h
    cases e with
    | list es =>
      have h : (decide (n ≤ (es.length : Int)) && es.all isBlD) = true := h
      rw [Bool.and_eq_true, decide_eq_true_iff] at h
      have : ∀ es : List PyData, es.all isBlD = true → ∃ bs : List Bool, es = bs.map PyData.bool := by
        intro es
        induction es with
        | nil => intro _; exact ⟨[], rfl⟩
        | cons e es ih =>
          intro h
          rw [List.all_cons, Bool.and_eq_true] at h
          obtain ⟨bs, rfl⟩ := ih h.2
          cases e with
          | bool b => exact ⟨b :: bs, rfl⟩
          | _ => cases h.1
      obtain ⟨bs, rfl⟩ := this es h.2
      exact ⟨bs, rfl, by have := h.1; rw [List.length_map] at this; exact this⟩
    | _ => cases h
  · rintro ⟨bs, rfl, h⟩
    show (decide (n ≤ ((bs.map PyData.bool).length : Int)) && (bs.map PyData.bool).all isBlD) = true
    rw [List.length_map, decide_eq_true h, Bool.true_and, List.all_eq_true]
    intro e he
    obtain ⟨b, _, rfl⟩ := List.mem_map.mp he
    rfl
theorem blsD_at {d : Addr} {H : Hp} {v : V} {bs : List Bool} (h : DAt d H v (blsD bs)) : ∃ a, v = .ref a ∧ H a = some (.lst (bls bs)) := by
  unfold blsD at h
  cases h with
  | lst hd h hs =>
    rename_i a xs
    refine ⟨a, rfl, ?_⟩
    have : ∀ {bs : List Bool} {xs : List V}, DAts d H xs (bs.map PyData.bool) → xs = bls bs := by
      intro bs
      induction bs with
      | nil => intro xs h; cases h; rfl
      | cons b bs ih =>
        intro xs h
        cases h with
        | cons h hs =>
          cases h
          rw [ih hs]
          rfl
    rw [h, this hs]
end Br

/-! ### words as data, and what they do -/
namespace Br
open PySem PySem.Spec PyProof.Rows L2
theorem cutV_to {xs : List V} {k : Nat} (h : k ≤ xs.length) : cutV xs none (some (k : Int)) = xs.take k := by
  unfold cutV
  rw [HT.sIx_none, HT.sIx_nat, Nat.min_eq_left h, List.drop_zero, Nat.sub_zero]
theorem cutV_from {xs : List V} {k : Nat} (h : k ≤ xs.length) : cutV xs (some (k : Int)) none = xs.drop k := by
  unfold cutV
  rw [HT.sIx_none, HT.sIx_nat, Nat.min_eq_left h]
  exact List.take_of_length_le (by rw [List.length_drop]; exact Nat.le_refl _)
/-! slices -/
section
variable {σ : L2.St} {H : Hp} {Q : VK} {R : Option Int → Hp → Prop}
theorem x_gTup3 {K : PySem.W.Frag} {σ : L2.St} {H : Hp} {p : Addr} {x y z : V} {i j k : Nat} {R : L2.St → Hp → Prop} (hp : SqT K H p [x, y, z]) (h : R (((σ.set i (some x)).set j (some y)).set k (some z)) H) : gTup K 3 (gCons (gName i) (gCons (gName j) (gCons (gName k) gNil))) (.ref p) σ H R :=
  ⟨p, [x, y, z], rfl, hp, rfl, x, [y, z], rfl, y, [z], rfl, z, [], rfl, rfl, h⟩
end
structure PmOk (p : List Nat) : Prop where
  len : p.length = 5
  lt : ∀ x, x ∈ p → x < 5
  nd : p.Nodup
abbrev Tr := Nat × List Nat × List Nat
def TrOk (t : Tr) : Prop := t.1 < 60 ∧ PmOk t.2.1 ∧ PmOk t.2.2
def pmD (p : List Nat) : PyData := .tuple (p.map fun (c : Nat) => PyData.int (c : Int))
def trD (t : Tr) : PyData := .tuple [.int (t.1 : Int), pmD t.2.1, pmD t.2.2]
def TrAt (H : Hp) (a : Addr) (t : Tr) : Prop := ∃ z o : Addr, H a = some (.tup [.int (t.1 : Int), .ref z, .ref o]) ∧ H z = some (.tup (cInts t.2.1)) ∧ H o = some (.tup (cInts t.2.2))
theorem TrAt.tups {H H' : Hp} {a : Addr} {t : Tr} (h : TrAt H a t) (k : ∀ b xs, H b = some (.tup xs) → H' b = some (.tup xs)) : TrAt H' a t := by
  obtain ⟨z, o, h1, h2, h3⟩ := h
  exact ⟨z, o, k _ _ h1, k _ _ h2, k _ _ h3⟩
theorem TrAt.dat {d a : Addr} {H : Hp} {t : Tr} (h : TrAt H a t) : DAt d H (.ref a) (trD t) := by
  obtain ⟨z, o, h1, h2, h3⟩ := h
  exact .tup h1 (.cons (.int _) (.cons (.tup h2 cInts_at) (.cons (.tup h3 cInts_at) .nil)))
/-- back from data -/
theorem cInts_of {d : Addr} {H : Hp} : ∀ {xs : List V} {cs : List Nat}, DAts d H xs (cs.map fun (c : Nat) => PyData.int (c : Int)) → xs = cInts cs
  | [], [], _ => rfl
  | v :: xs, c :: cs, h => by
    cases h with
    | cons h hs =>
      cases h
      rw [cInts_of hs]
      rfl
  | [], _ :: _, h => by cases h
  | _ :: _, [], h => by cases h
theorem pmD_at {d : Addr} {H : Hp} {v : V} {p : List Nat} (h : DAt d H v (pmD p)) : ∃ z, v = .ref z ∧ H z = some (.tup (cInts p)) := by
  unfold pmD at h
  cases h with
  | tup h hs =>
    rename_i a xs
    refine ⟨a, rfl, ?_⟩
    rw [h, cInts_of hs]
theorem trD_at {d : Addr} {H : Hp} {v : V} {t : Tr} (h : DAt d H v (trD t)) : ∃ a, v = .ref a ∧ TrAt H a t := by
  unfold trD at h
  cases h with
  | tup h hs =>
    rename_i a xs
    cases hs with
    | cons h1 hs =>
      cases h1
      cases hs with
      | cons h2 hs =>
        cases hs with
        | cons h3 hs =>
          cases hs
          obtain ⟨z, rfl, e2⟩ := pmD_at h2
          obtain ⟨o, rfl, e3⟩ := pmD_at h3
          exact ⟨a, rfl, z, o, h, e2, e3⟩
/-- the checks -/
def intD : PyData → Int
  | .int i => i
  | _ => 0
def permD : PyData → Bool
  | .tuple es => decide (es.length = 5) && (es.all (isBD 5) && decide (es.map intD).Nodup)
  | _ => false
def tripD : PyData → Bool
  | .tuple [k, z, o] => isBD 60 k && (permD z && permD o)
  | _ => false
def wordD : PyData → Bool
  | .list es => decide (es.length ≤ 20000) && es.all tripD
  | _ => false
theorem ints_nat : ∀ {es : List PyData} {b : Nat}, es.all (isBD (b : Int)) = true → ∃ cs : List Nat, es = cs.map (fun (c : Nat) => PyData.int (c : Int)) ∧ ∀ c, c ∈ cs → c < b
  | [], _, _ => ⟨[], rfl, fun c h => by simp at h⟩
  | e :: es, b, h => by
    rw [List.all_cons, Bool.and_eq_true] at h
    obtain ⟨i, rfl, i0, i1⟩ := isBD_iff.mp h.1
    obtain ⟨cs, rfl, hc⟩ := ints_nat h.2
    refine ⟨i.toNat :: cs, ?_, fun c hc' => ?_⟩
    · rw [List.map_cons]
      congr 2
      omega
    · rcases List.mem_cons.mp hc' with rfl | hc'
      · omega
      · exact hc c hc'
theorem map_intD {cs : List Nat} : (cs.map fun (c : Nat) => PyData.int (c : Int)).map intD = cs.map fun (c : Nat) => (c : Int) := by rw [List.map_map]; rfl
theorem nodup_cast {cs : List Nat} : (cs.map fun (c : Nat) => (c : Int)).Nodup ↔ cs.Nodup := by
  unfold List.Nodup
  rw [List.pairwise_map]
  exact ⟨fun h => h.imp fun hh e => hh (by rw [e]), fun h => h.imp fun hh e => hh (Int.ofNat.inj e)⟩
theorem permD_iff {e : PyData} : permD e = true ↔ ∃ p, e = pmD p ∧ PmOk p := by
  constructor
  · intro h
    cases e with
    | tuple es =>
      have h : (decide (es.length = 5) && (es.all (isBD 5) && decide (es.map intD).Nodup)) = true := h
      rw [Bool.and_eq_true, Bool.and_eq_true (es.all _), decide_eq_true_iff, decide_eq_true_iff] at h
      obtain ⟨h1, h2, h3⟩ := h
      obtain ⟨cs, rfl, hc⟩ := ints_nat (b := 5) h2
      rw [map_intD, nodup_cast] at h3
      exact ⟨cs, rfl, by rw [List.length_map] at h1; exact h1, hc, h3⟩
    | _ => cases h
  · rintro ⟨p, rfl, h⟩
    show (decide ((p.map _).length = 5) && ((p.map _).all (isBD 5) && decide ((p.map _).map intD).Nodup)) = true
    rw [map_intD, List.length_map, decide_eq_true h.len, decide_eq_true (nodup_cast.mpr h.nd), Bool.and_true, Bool.true_and, List.all_eq_true]
    intro x hx
    obtain ⟨c, hc, rfl⟩ := List.mem_map.mp hx
    exact isBD_iff.mpr ⟨_, rfl, by omega, by have := h.lt c hc; omega⟩
theorem tripD_iff {e : PyData} : tripD e = true ↔ ∃ t, e = trD t ∧ TrOk t := by
  constructor
  · intro h
    match e, h with
    | .tuple [k, z, o], h =>
      have h : (isBD 60 k && (permD z && permD o)) = true := h
      rw [Bool.and_eq_true, Bool.and_eq_true (permD z)] at h
      obtain ⟨i, rfl, i0, i1⟩ := isBD_iff.mp h.1
      obtain ⟨p, rfl, hp⟩ := permD_iff.mp h.2.1
      obtain ⟨p2, rfl, hp2⟩ := permD_iff.mp h.2.2
      refine ⟨(i.toNat, p, p2), ?_, by show i.toNat < 60; omega, hp, hp2⟩
      show PyData.tuple _ = .tuple [.int ((i.toNat : Nat) : Int), _, _]
      rw [show ((i.toNat : Nat) : Int) = i by omega]
  · rintro ⟨t, rfl, h1, h2, h3⟩
    show (isBD 60 (.int (t.1 : Int)) && (permD (pmD t.2.1) && permD (pmD t.2.2))) = true
    rw [isBD_iff.mpr ⟨_, rfl, by omega, by omega⟩, permD_iff.mpr ⟨_, rfl, h2⟩, permD_iff.mpr ⟨_, rfl, h3⟩]
    rfl
theorem trips_of : ∀ {es : List PyData}, es.all tripD = true → ∃ ws : List Tr, es = ws.map trD ∧ ∀ t, t ∈ ws → TrOk t
  | [], _ => ⟨[], rfl, fun t h => by simp at h⟩
  | e :: es, h => by
    rw [List.all_cons, Bool.and_eq_true] at h
    obtain ⟨t, rfl, ht⟩ := tripD_iff.mp h.1
    obtain ⟨ws, rfl, hw⟩ := trips_of h.2
    refine ⟨t :: ws, rfl, fun x hx => ?_⟩
    rcases List.mem_cons.mp hx with rfl | hx
    · exact ht
    · exact hw x hx
theorem wordD_iff {e : PyData} : wordD e = true ↔ ∃ ws : List Tr, e = .list (ws.map trD) ∧ ws.length ≤ 20000 ∧ ∀ t, t ∈ ws → TrOk t := by
  constructor
  · intro h
    cases e with
    | list es =>
      have h : (decide (es.length ≤ 20000) && es.all tripD) = true := h
      rw [Bool.and_eq_true, decide_eq_true_iff] at h
      obtain ⟨ws, rfl, hw⟩ := trips_of h.2
      exact ⟨ws, rfl, by have := h.1; rw [List.length_map] at this; exact this, hw⟩
    | _ => cases h
  · rintro ⟨ws, rfl, hl, hw⟩
    show (decide ((ws.map trD).length ≤ 20000) && (ws.map trD).all tripD) = true
    rw [List.length_map, decide_eq_true hl, Bool.true_and, List.all_eq_true]
    intro x hx
    obtain ⟨t, ht, rfl⟩ := List.mem_map.mp hx
    exact tripD_iff.mpr ⟨t, rfl, hw t ht⟩
/-- what a word does -/
def stepW (bs : List Bool) (p : Nat) (t : Tr) : Nat := (if bs.getD t.1 false then t.2.2 else t.2.1).getD p 0
def effF (ws : List Tr) (bs : List Bool) (p : Nat) : Nat := ws.foldl (stepW bs) p
theorem effF_snoc {ws : List Tr} {t : Tr} {bs : List Bool} {p : Nat} : effF (ws ++ [t]) bs p = stepW bs (effF ws bs p) t := by
  unfold effF
  rw [List.foldl_append]
  rfl
theorem pm_get {p : List Nat} (h : PmOk p) {i : Nat} (hi : i < 5) : p[i]? = some (p.getD i 0) ∧ p.getD i 0 < 5 := by
  have hl : i < p.length := by rw [h.len]; exact hi
  have e : p.getD i 0 = p[i] := by rw [List.getD_eq_getElem?_getD, List.getElem?_eq_getElem hl]; rfl
  rw [e]
  exact ⟨List.getElem?_eq_getElem hl, h.lt _ (List.getElem_mem hl)⟩
theorem effF_lt {bs : List Bool} : ∀ {ws : List Tr} {p : Nat}, (∀ t, t ∈ ws → TrOk t) → p < 5 → effF ws bs p < 5
  | [], _, _, hp => hp
  | t :: ws, p, h, hp => by
    have ht := h t List.mem_cons_self
    refine effF_lt (p := stepW bs p t) (fun x hx => h x (List.mem_cons_of_mem _ hx)) ?_
    unfold stepW
    split
    · exact (pm_get ht.2.2 hp).2
    · exact (pm_get ht.2.1 hp).2
/-- the bits that a word needs -/
def needW (ws : List Tr) : Nat := (ws.map fun t => t.1 + 1).foldr max 0
theorem needW_le {ws : List Tr} {t : Tr} (h : t ∈ ws) : t.1 + 1 ≤ needW ws := (foldr_max (cs := ws.map fun t => t.1 + 1) (t := 0)).2.1 _ (List.mem_map.mpr ⟨t, h, rfl⟩)
theorem needW_max {ws : List Tr} {m : Int} (h : (ws = [] ∧ m = 0) ∨ (m ∈ ws.map (fun t => ((t.1 : Int) + 1)) ∧ ∀ y, y ∈ ws.map (fun t => ((t.1 : Int) + 1)) → y ≤ m)) : m = (needW ws : Nat) := by
  rcases h with ⟨rfl, rfl⟩ | ⟨h1, h2⟩
  · rfl
  · obtain ⟨t, ht, rfl⟩ := List.mem_map.mp h1
    have k1 := needW_le ht
    have k2 : (needW ws : Int) ≤ (t.1 : Int) + 1 := by
      rcases (foldr_max (cs := ws.map fun t => t.1 + 1) (t := 0)).2.2 with e | e
      · have : needW ws = 0 := e
        omega
      · obtain ⟨u, hu, e⟩ := List.mem_map.mp e
        have := h2 _ (List.mem_map.mpr ⟨u, hu, rfl⟩)
        have e : u.1 + 1 = needW ws := e
        omega
    omega
theorem needW_60 {ws : List Tr} (h : ∀ t, t ∈ ws → TrOk t) : needW ws ≤ 60 := by
  rcases (foldr_max (cs := ws.map fun t => t.1 + 1) (t := 0)).2.2 with e | e
  · have : needW ws = 0 := e
    omega
  · obtain ⟨u, hu, e⟩ := List.mem_map.mp e
    have := (h u hu).1
    have e : u.1 + 1 = needW ws := e
    omega
end Br

/-! ### exceptions of the program: what a suite asks of the one it holds -/
namespace Br
open PySem PySem.Spec PyProof.Rows L2
theorem kit_ref {K : PySem.W.Frag} {D Y : Addr} {b : Bool} (hd : PySem.W.hasDictIn K Y = true) (ht : PySem.W.typeIn K (.ref Y) = some (.type "type")) (h : PySem.W.subIn K (.ref D) (.ref Y) = some b) (hs : PySem.W.subIn K (.ref Y) (.ref Y) = some true) : PySem.W.kitOne K (.ref D) (.ref Y) = some b := by
  unfold PySem.W.kitOne
  by_cases e : D = Y
  · subst e
    rw [h] at hs
    cases hs
    rw [if_pos (by simp)]
  · have hne : ((Value.ref D : Value) == Value.ref Y) = false := by
      rw [beq_eq_false_iff_ne]
      intro z
      cases z
      exact e rfl
    rw [hne, if_neg Bool.false_ne_true]
    obtain ⟨cd, hc, _⟩ := PySem.W.any_some hd
    have e2 : ((PySem.W.clsIn K Y).isSome && PySem.W.typeIn K (.ref Y) == some (.type "type")) = true := by rw [hc, ht]; rfl
    show (if ((PySem.W.clsIn K Y).isSome && PySem.W.typeIn K (.ref Y) == some (.type "type")) = true then PySem.W.subIn K (.ref D) (.ref Y) else none) = some b
    rw [if_pos e2]
    exact h
/-- isinstance(e, c), e what the suite holds, of whatever class -/
def rIsEQ (K : PySem.W.Frag) (a : Addr) (cls : Value) (d : Option Addr) : List V → Hp → VK → Prop := fun xs H Q => ∃ (D : Addr) (C : Addr) (b : Bool), cls = .ref D ∧ d = none ∧ ExcC K D ∧ xs = [.ref a, .ref C] ∧ PySem.W.kitOne K (.ref D) (.ref C) = some b ∧ Q (.bl b) H
theorem call_isEQ {X : Cx} {a : Addr} {oe : Obj} {cls : Value} {d : Option Addr} {pn : List (Addr × Obj)} {K : PySem.W.Frag} (hK : X.K = K) (hz : Zc cls d oe) (hf : ∃ vs, oe.data = .fields vs) : CallR (X.suite a ((a, oe) :: pn)) (.builtin "isinstance") (rIsEQ K a cls d) := by
  subst hK
  intro pins s σ H xs us Q I r h
  obtain ⟨D, C, b, rfl, rfl, hC, rfl, hk, q⟩ := h
  exact call_isE hC hz hf pins s σ H _ us Q I r ⟨.ref C, .ref C, b, rfl, fun u hu => hu, hk, q⟩
section
variable {σ : L2.St} {H : Hp} {D : Ends}
theorem x_callS {sp : Sp} {E : L2.St → XK} {t : TA} {Q : VK} (h : t σ H fun vs H1 => sp vs H1 Q (E σ)) : tCallS sp E t σ H Q := h
end
/-- a method's call within a try: what it raises is wished for at the slots as they stand -/
def tMethX (C : Addr) (m : Str) (sp : Sp) (E : L2.St → XK) (ta : TE) (t : TA) : TE := fun σ H Q => ta σ H fun x H1 => ∃ a dx fs, x = .ref a ∧ H1 a = some (.ins C dx fs) ∧ fs.lookup m = none ∧ t σ H1 fun vs H2 => sp (x :: vs) H2 Q (E σ)
theorem pe_methX {X : Cx} {CX : CXT} {k : Nat} {f C : Addr} {fd : FuncData} {ps : List Str} {sp : Sp} {E : L2.St → XK} {m : Str} {pos apos : Pos} {e o : Expr} {es : List Expr} {ta : TE} {t : TA} {pl : Sem Bool} (he : PE X o ta) (c : Cls X.K C) (hm : Meth X.K C m f)
    (F : FnOk X.prog X.w X.K X.mg X.base CX k f fd ps sp) (hr : Room k X.A) (hb : Binds X.K fd ps []) (hx : ∀ σ, PassesAt CX X σ (E σ)) (ha : PA X (e :: es) t)
    (hst : starEach (e :: es) X.env = (false, eval e X.env) :: starEach es X.env := by rfl) (hpl : (backTo pos (starEach es X.env)).any (·.1) = false := by rfl)
    (ht : eval (.Call (.Attribute o m apos) (e :: es) [] pos) X.env = (do
      let ov ← eval o X.env
      standAt apos.atName
      let (f, first) ← holding [ov] (getMethod ov m pl)
      callWith pos f first (backTo pos (starEach (e :: es) X.env)) (backToKw pos (keywordEach [] X.env))) := by rfl) :
    PE X (.Call (.Attribute o m apos) (e :: es) [] pos) (tMethX C m sp E ta t) := by
  refine ⟨fun pins s σ H Q I h => ?_⟩
  refine PySem.W.methodCall_KW (pl := pl) (thn (he.run pins s σ H _ I h) fun u s1 ⟨x, H1, I1, rx, a, dx, fs, ex, ea, l, q⟩ => ?_) ht
  subst ex
  obtain rfl : u = Value.ref a := rx
  refine getmeth_ok I1 ea c hm l ?_
  refine PySem.W.callWith_K (first := [.ref a]) (h₀ := X.base) I.ok.mod.kin hm.kp (thn (ha.run pos pins s1 σ H1 _ I1 q) fun us s2 ⟨vs, H2, I2, r, q2⟩ => ⟨I2.kIn, ?_⟩) hst hpl
  exact run_fnS (us := .ref a :: us) (vs := .ref a :: vs) F hr hb (hx σ) I2 (.cons rfl r) q2
theorem x_methX {C : Addr} {m : Str} {sp : Sp} {E : L2.St → XK} {ta : TE} {t : TA} {σ : L2.St} {H : Hp} {Q : VK} (h : ta σ H fun x H1 => ∃ a dx fs, x = .ref a ∧ H1 a = some (.ins C dx fs) ∧ fs.lookup m = none ∧ t σ H1 fun vs H2 => sp (x :: vs) H2 Q (E σ)) : tMethX C m sp E ta t σ H Q := h
/-! texts with numbers -/
theorem x_fmt {te : TE} {σ : L2.St} {H : Hp} {Q : VK} (h : te σ H fun x H1 => (∃ y : Str, x = .str y ∧ y.length ≤ sizeLine ∧ Q (.str y) H1) ∨ ∃ i : Int, x = .int i ∧ i.natAbs.log2 < 1920 ∧ Q (.str (toString i)) H1) : tFmt te σ H Q := h
theorem len_nat {n : Nat} (h : n < 10 ^ 10) : (Str.ofString (toString (n : Int))).length ≤ 10 := toString_length_le (Int.natCast_nonneg n) (by decide) (by exact_mod_cast h)
theorem log_nat {n : Nat} (h : n < 2 ^ 64) : ((n : Int)).natAbs.log2 < 1920 := by
  rw [Int.natAbs_natCast]
  by_cases h0 : n = 0
  · subst h0; decide
  · have := (Nat.log2_lt h0).mpr h
    omega
end Br
/-! isinstance(e, (C1, C2, ..)), e what the suite holds -/
namespace Br
open PySem PySem.Spec PyProof.Rows L2
def rIsEQT (K : PySem.W.Frag) (a : Addr) (cls : Value) (d : Option Addr) : List V → Hp → VK → Prop := fun xs H Q => ∃ (D tp : Addr) (cs : List V) (us : List Value) (b : Bool), cls = .ref D ∧ d = none ∧ ExcC K D ∧ xs = [.ref a, .ref tp] ∧ H tp = some (.tup cs) ∧ Paired ClsV cs us ∧ PySem.W.kitAny K (.ref D) us = some b ∧ Q (.bl b) H
theorem call_isEQT {X : Cx} {a : Addr} {oe : Obj} {cls : Value} {d : Option Addr} {pn : List (Addr × Obj)} {K : PySem.W.Frag} (hK : X.K = K) (hz : Zc cls d oe) (hf : ∃ vs, oe.data = .fields vs) : CallR (X.suite a ((a, oe) :: pn)) (.builtin "isinstance") (rIsEQT K a cls d) := by
  subst hK
  intro pins s σ H xs us Q I r h
  obtain ⟨D, tp, cs, ws, b, rfl, rfl, C, rfl, hT, k, e, q⟩ := h
  obtain ⟨u1, u2, rfl, rx, rt⟩ := vals2 r
  cases (show u2 = Value.ref tp from rt)
  cases (show u1 = Value.ref a from rx)
  obtain ⟨hget, _⟩ := I.pin (a, oe) (List.mem_append.mpr (.inl List.mem_cons_self))
  obtain ⟨vs, hv⟩ := hf
  have J : PySem.W.InstAt s.heap a oe D none := by
    obtain ⟨oc, od, oda, osl⟩ := oe
    obtain ⟨h1, h2⟩ := hz
    dsimp only at h1 h2 hv
    subst h1 h2 hv
    exact ⟨hget, rfl, rfl, trivial⟩
  obtain ⟨_, its, rv, o, h1, h2, n, h3⟩ := (show ObjOk _ _ H s.heap tp (.tup cs) from I.hok tp _ hT)
  have e3 := ClsV.all k rv
  subst e3
  obtain ⟨oc, od, dt, sl⟩ := o
  simp only at h2 h3
  subst h2 h3
  exact PySem.W.kia_tup (PySem.W.handS_kitx_exc C.hg C.hk C.hs C.hd C.ha C.hn C.ht C.hm) I.kIn J h1 e (fun z => nomatch z) fun tk => ⟨.bl b, H, I.kept (t' := tk) fun _ _ z => z, rfl, q⟩
end Br
namespace Br
open PySem PySem.Spec PyProof.Rows L2
/-! isinstance(e, ValueError), e what the suite holds -/
def rIsEV (K : PySem.W.Frag) (a : Addr) (cls : Value) (d : Option Addr) : List V → Hp → VK → Prop := fun xs H Q => ∃ (D : Addr) (T : String) (b : Bool), cls = .ref D ∧ d = none ∧ ExcC K D ∧ xs = [.ref a, .ty T] ∧ PySem.W.kitOne K (.ref D) (.type T) = some b ∧ Q (.bl b) H
theorem call_isEV {X : Cx} {a : Addr} {oe : Obj} {cls : Value} {d : Option Addr} {pn : List (Addr × Obj)} {K : PySem.W.Frag} (hK : X.K = K) (hz : Zc cls d oe) (hf : ∃ vs, oe.data = .fields vs) : CallR (X.suite a ((a, oe) :: pn)) (.builtin "isinstance") (rIsEV K a cls d) := by
  subst hK
  intro pins s σ H xs us Q I r h
  obtain ⟨D, T, b, rfl, rfl, hC, rfl, hk, q⟩ := h
  exact call_isE hC hz hf pins s σ H _ us Q I r ⟨.ty T, .type T, b, rfl, fun u hu => hu, hk, q⟩
theorem kit_val {K : PySem.W.Frag} {D : Addr} (h : PySem.W.subIn K (.ref D) (.type "ValueError") = some true) : PySem.W.kitOne K (.ref D) (.type "ValueError") = some true := by
  unfold PySem.W.kitOne
  rw [if_neg (by rw [show ((Value.ref D : Value) == Value.type "ValueError") = false from rfl]; decide)]
  show (if PySem.W.kitMeta "ValueError" = true then PySem.W.subIn K (.ref D) (.type "ValueError") else none) = some true
  rw [if_pos (by decide +kernel)]
  exact h
end Br

/-! ### len(set(xs)), any ints -/
namespace Br
open PySem PySem.Spec PyProof.Rows L2
theorem nodup_le : ∀ {ks ns : List Int}, ks.Nodup → (∀ k, k ∈ ks → k ∈ ns) → ks.length ≤ ns.length
  | [], _, _, _ => Nat.zero_le _
  | k :: ks, ns, hn, hs => by
    rw [List.nodup_cons] at hn
    have hk := hs k List.mem_cons_self
    have h := nodup_le (ns := ns.erase k) hn.2 fun x hx => by
      have hx2 := hs x (List.mem_cons_of_mem _ hx)
      exact (List.mem_erase_of_ne (fun e => hn.1 (by rw [← e]; exact hx))).mpr hx2
    rw [List.length_erase_of_mem hk] at h
    have := List.length_pos_of_mem hk
    rw [List.length_cons]
    omega
theorem dup_at : ∀ {ns : List Int}, ¬ ns.Nodup → ∃ x, x ∈ ns ∧ x ∈ ns.erase x
  | [], h => absurd List.nodup_nil h
  | x :: r, h => by
    by_cases hx : x ∈ r
    · exact ⟨x, List.mem_cons_self, by rw [List.erase_cons_head]; exact hx⟩
    · have hr : ¬ r.Nodup := fun hr => h (List.nodup_cons.mpr ⟨hx, hr⟩)
      obtain ⟨y, h1, h2⟩ := dup_at hr
      have hne : x ≠ y := fun e => hx (by rw [e]; exact h1)
      refine ⟨y, List.mem_cons_of_mem _ h1, ?_⟩
      rw [List.erase_cons_tail (by simpa using hne)]
      exact List.mem_cons_of_mem _ h2
theorem card_iff {ks ns : List Int} (hn : ks.Nodup) (h : ∀ k, k ∈ ks ↔ k ∈ ns) : (ks.length = ns.length ↔ ns.Nodup) ∧ ks.length ≤ ns.length := by
  have hle := nodup_le hn fun k hk => (h k).mp hk
  refine ⟨⟨fun e => ?_, fun hs => ?_⟩, hle⟩
  · by_cases hd : ns.Nodup
    · exact hd
    · exfalso
      obtain ⟨x, h1, h2⟩ := dup_at hd
      have := nodup_le (ns := ns.erase x) hn fun k hk => by
        by_cases e : k = x
        · rw [e]; exact h2
        · exact (List.mem_erase_of_ne e).mpr ((h k).mp hk)
      rw [List.length_erase_of_mem h1] at this
      have := List.length_pos_of_mem h1
      omega
  · have := nodup_le hs fun k hk => (h k).mpr hk
    omega
theorem step_nodup {ks : List Int} {k : Int} (h : ks.Nodup) : (step_dedup ks k).Nodup ∧ ∀ x, x ∈ step_dedup ks k ↔ x ∈ ks ∨ x = k := by
  unfold step_dedup
  split
  · rename_i hb
    obtain ⟨y, hy, e⟩ := List.any_eq_true.mp hb
    have : y = k := by simpa using e
    subst this
    refine ⟨h, fun x => ⟨.inl, fun z => z.elim id fun e => by rw [e]; exact hy⟩⟩
  · rename_i hb
    have hk : k ∉ ks := fun hk => hb (List.any_eq_true.mpr ⟨k, hk, by simp⟩)
    refine ⟨List.nodup_append.mpr ⟨h, by simp, fun a ha b hb e => hk (by rw [← List.mem_singleton.mp hb, ← e]; exact ha)⟩, fun x => by simp⟩
theorem firstMet_spec {ns : List Int} : ∀ i, i ≤ ns.length → (firstMet (fun i => ns.getD i 0) i).Nodup ∧ ∀ x, x ∈ firstMet (fun i => ns.getD i 0) i ↔ x ∈ ns.take i
  | 0, _ => ⟨List.nodup_nil, fun x => by show x ∈ [] ↔ x ∈ ns.take 0; simp⟩
  | i + 1, hi => by
    obtain ⟨h1, h2⟩ := firstMet_spec (ns := ns) i (Nat.le_of_lt hi)
    obtain ⟨k1, k2⟩ := step_nodup (k := ns.getD i 0) h1
    rw [firstMet_succ]
    refine ⟨k1, fun x => ?_⟩
    have e : ns.getD i 0 = ns[i] := by rw [List.getD_eq_getElem?_getD, List.getElem?_eq_getElem hi]; rfl
    have e2 : ns.take (i + 1) = ns.take i ++ [ns[i]] := by rw [List.take_add_one, List.getElem?_eq_getElem hi]; rfl
    rw [k2, h2, e, e2, List.mem_append, List.mem_singleton]
def tLenSet (K : PySem.W.Frag) (ta : TE) : TE := fun σ H Q => ta σ H fun x H1 => ∃ (l : Addr) (ns : List Int), x = V.ref l ∧ (SqL K H1 l (ns.map V.int) ∨ SqT K H1 l (ns.map V.int)) ∧ ns.length ≤ 4000 ∧ ∀ c : Nat, (c = ns.length ↔ ns.Nodup) → c ≤ ns.length → Q (.int (c : Nat)) H1
theorem pe_lenSetA {X : Cx} {a : Expr} {ta : TE} {p p2 q pos : Pos} (hg : Gl X "len") (hm : X.mg "len" = none) (hg2 : Gl X "set") (hm2 : X.mg "set" = none) (ha : PE X a ta) (hc : X.calm = true := by rfl)
    (na : starEach [a] X.env = (false, eval a X.env) :: starEach [] X.env := by rfl) : PE X (.Call (.Name "len" p) [.Call (.Name "set" p2) [a] [] q] [] pos) (tLenSet X.K ta) := by
  refine ⟨fun pins s σ H Q I h => ?_⟩
  refine Call_ (ld_blt I hg hm PySem.boot_len ?_)
  refine PyProof.Rows.callWith_builtin1 (PyProof.Rows.args_cons ?_ rfl) rfl rfl
  refine Call_ (ld_blt I hg2 hm2 PyProof.Rows.boot_set ?_)
  refine PyProof.Rows.callWith_type1 (PyProof.Rows.args_cons (thn (ha.run pins s σ H _ I h) fun v s1 ⟨x, H1, I1, r1, q1⟩ => PyProof.Rows.args_nil ?_) na) na rfl
  obtain ⟨l, ns, rfl, hq, hl, q1⟩ := q1
  cases r1
  rcases hq with hq | hq
  · obtain ⟨its, r, pl, hz⟩ := I1.list hq
    have hlen : its.toArray.size = ns.length := by rw [List.size_toArray, ← r.length, List.length_map]
    refine call_set_list (I1.ok.hd hc) pl.isList (ns := ns) (by simpa using r.ints) (by rw [hlen]; unfold scanBound; omega) fun h' tk hS hk => ?_
    rw [hlen] at hS
    obtain ⟨f1, f2⟩ := firstMet_spec (ns := ns) ns.length (Nat.le_refl _)
    rw [List.take_length] at f2
    obtain ⟨c1, c2⟩ := card_iff f1 f2
    refine PyProof.Rows.args_nil ?_
    obtain ⟨o, es, ep, t, ho, hex, hd, _, _, _, hf, hn⟩ := hS
    have I2 : Inv X pins σ H1 { s1 with heap := h', toks := tk } := I1.kept fun b o e => hk b o (Heap.lt_size e) e
    refine call_len_set ho hex hd hf (by rw [hn]; omega) ⟨.int ((es.size : Nat) : Int), H1, I2.tok _, ⟨_, rfl⟩, by rw [hn]; exact q1 _ c1 c2⟩
  · obtain ⟨its, r, pl, hz⟩ := I1.tuple hq
    refine call_set_tupI ns (I1.ok.hd hc) pl (by simpa using r.ints) (by unfold scanBound; omega) fun h' tk c hS _ hk => ?_
    refine PyProof.Rows.args_nil ?_
    obtain ⟨o, es, ep, t, ho, hex, hd, _, hnd, hS, _, hf, hn, _⟩ := hS
    obtain ⟨c1, c2⟩ := card_iff (ns := ns) hnd fun k => by rw [← hS k]; simp
    have hsz : (es.toList.map keyOf).length = c := by rw [List.length_map, Array.length_toList, hn]
    rw [hsz] at c1 c2
    have I2 : Inv X pins σ H1 { s1 with heap := h', toks := tk } := I1.kept hk
    refine call_len_set ho hex hd hf (by rw [hn]; omega) ⟨.int ((es.size : Nat) : Int), H1, I2.tok _, ⟨_, rfl⟩, by rw [hn]; exact q1 c c1 c2⟩
end Br








namespace Br
open PySem PySem.Spec PyProof.Rows L2
def topS (i : Nat) : Stmt := PySem.Challenge.pw_brimful_k22_effects_of_words.main.body.getD i (.Pass ⟨0, 0, 0, 0⟩)
abbrev s_are_bits : Stmt := topS 1
abbrev N_are_bits : List Str := ["values", "least", "value"]
theorem sc_are_bits : FnScope N_are_bits ["values", "least"] (defScope s_are_bits) := ⟨rfl, rfl, rfl, by decide +kernel, rfl, by decide +kernel, by decide +kernel⟩
abbrev s_is_below : Stmt := topS 3
abbrev N_is_below : List Str := ["value", "bound"]
theorem sc_is_below : FnScope N_is_below ["value", "bound"] (defScope s_is_below) := ⟨rfl, rfl, rfl, by decide +kernel, rfl, by decide +kernel, by decide +kernel⟩
abbrev s_is_permutation : Stmt := topS 6
abbrev N_is_permutation : List Str := ["value", "point"]
theorem sc_is_permutation : FnScope N_is_permutation ["value"] (defScope s_is_permutation) := ⟨rfl, rfl, rfl, by decide +kernel, rfl, by decide +kernel, by decide +kernel⟩
abbrev s_is_input : Stmt := topS 13
abbrev N_is_input : List Str := ["k"]
theorem sc_is_input : FnScope N_is_input ["k"] (defScope s_is_input) := ⟨rfl, rfl, rfl, by decide +kernel, rfl, by decide +kernel, by decide +kernel⟩
abbrev s_effect : Stmt := topS 16
abbrev N_effect : List Str := ["word", "bits", "point", "k", "zero", "one", "triple"]
theorem sc_effect : FnScope N_effect ["word", "bits", "point"] (defScope s_effect) := ⟨rfl, rfl, rfl, by decide +kernel, rfl, by decide +kernel, by decide +kernel⟩
abbrev s_is_word : Stmt := topS 17
abbrev N_is_word : List Str := ["word", "triple"]
theorem sc_is_word : FnScope N_is_word ["word"] (defScope s_is_word) := ⟨rfl, rfl, rfl, by decide +kernel, rfl, by decide +kernel, by decide +kernel⟩
abbrev s_is_triple : Stmt := topS 18
abbrev N_is_triple : List Str := ["triple", "k", "zero", "one"]
theorem sc_is_triple : FnScope N_is_triple ["triple"] (defScope s_is_triple) := ⟨rfl, rfl, rfl, by decide +kernel, rfl, by decide +kernel, by decide +kernel⟩
abbrev s_law_mixed : Stmt := topS 20
abbrev N_law_mixed : List Str := ["number", "k", "step"]
theorem sc_law_mixed : FnScope N_law_mixed ["number", "k"] (defScope s_law_mixed) := ⟨rfl, rfl, rfl, by decide +kernel, rfl, by decide +kernel, by decide +kernel⟩
abbrev s_law_numbers : Stmt := topS 21
abbrev N_law_numbers : List Str := ["script", "numbers", "cell", "rest", "k"]
theorem sc_law_numbers : FnScope N_law_numbers ["script"] (defScope s_law_numbers) := ⟨rfl, rfl, rfl, by decide +kernel, rfl, by decide +kernel, by decide +kernel⟩
abbrev s_law_draw : Stmt := topS 22
abbrev N_law_draw : List Str := ["draws", "at", "first"]
theorem sc_law_draw : FnScope N_law_draw ["draws"] (defScope s_law_draw) := ⟨rfl, rfl, rfl, by decide +kernel, rfl, by decide +kernel, by decide +kernel⟩
abbrev s_law_equal : Stmt := topS 23
abbrev N_law_equal : List Str := ["actual", "due"]
theorem sc_law_equal : FnScope N_law_equal ["actual", "due"] (defScope s_law_equal) := ⟨rfl, rfl, rfl, by decide +kernel, rfl, by decide +kernel, by decide +kernel⟩
abbrev s_law_all_equal : Stmt := topS 24
abbrev N_law_all_equal : List Str := ["actual", "due", "k"]
theorem sc_law_all_equal : FnScope N_law_all_equal ["actual", "due"] (defScope s_law_all_equal) := ⟨rfl, rfl, rfl, by decide +kernel, rfl, by decide +kernel, by decide +kernel⟩
abbrev s_law_bits : Stmt := topS 28
abbrev N_law_bits : List Str := ["draws", "k"]
theorem sc_law_bits : FnScope N_law_bits ["draws"] (defScope s_law_bits) := ⟨rfl, rfl, rfl, by decide +kernel, rfl, by decide +kernel, by decide +kernel⟩
abbrev s_law_permutation : Stmt := topS 30
abbrev N_law_permutation : List Str := ["draws", "rest", "sent", "k", "at"]
theorem sc_law_permutation : FnScope N_law_permutation ["draws"] (defScope s_law_permutation) := ⟨rfl, rfl, rfl, by decide +kernel, rfl, by decide +kernel, by decide +kernel⟩
abbrev s_law_sent : Stmt := topS 31
abbrev N_law_sent : List Str := ["word", "bits", "point", "triple"]
theorem sc_law_sent : FnScope N_law_sent ["word", "bits", "point"] (defScope s_law_sent) := ⟨rfl, rfl, rfl, by decide +kernel, rfl, by decide +kernel, by decide +kernel⟩
abbrev s_law_lacks : Stmt := topS 32
abbrev N_law_lacks : List Str := ["word", "bits", "e"]
theorem sc_law_lacks : FnScope N_law_lacks ["word", "bits"] (defScope s_law_lacks) := ⟨rfl, rfl, rfl, by decide +kernel, rfl, by decide +kernel, by decide +kernel⟩
abbrev s_law : Stmt := topS 33
abbrev N_law : List Str := ["script", "draws", "turn", "word", "k", "bits", "many", "point", "handed", "given", "triple"]
theorem sc_law : FnScope N_law ["script"] (defScope s_law) := ⟨rfl, rfl, rfl, by decide +kernel, rfl, by decide +kernel, by decide +kernel⟩
structure Txt (K : PySem.W.Frag) (mg : Str → Option Value) where
  a_are_bits : Addr
  fd_are_bits : FuncData
  F_are_bits : Fun K "are_bits" "are_bits" s_are_bits a_are_bits fd_are_bits
  b_are_bits : Binds K fd_are_bits ["values", "least"] []
  g_are_bits : mg "are_bits" = some (.ref a_are_bits)
  a_is_below : Addr
  fd_is_below : FuncData
  F_is_below : Fun K "is_below" "is_below" s_is_below a_is_below fd_is_below
  b_is_below : Binds K fd_is_below ["value", "bound"] []
  g_is_below : mg "is_below" = some (.ref a_is_below)
  a_is_permutation : Addr
  fd_is_permutation : FuncData
  F_is_permutation : Fun K "is_permutation" "is_permutation" s_is_permutation a_is_permutation fd_is_permutation
  b_is_permutation : Binds K fd_is_permutation ["value"] []
  g_is_permutation : mg "is_permutation" = some (.ref a_is_permutation)
  a_is_input : Addr
  fd_is_input : FuncData
  F_is_input : Fun K "is_input" "is_input" s_is_input a_is_input fd_is_input
  b_is_input : Binds K fd_is_input ["k"] []
  g_is_input : mg "is_input" = some (.ref a_is_input)
  a_effect : Addr
  fd_effect : FuncData
  F_effect : Fun K "effect" "effect" s_effect a_effect fd_effect
  b_effect : Binds K fd_effect ["word", "bits", "point"] []
  g_effect : mg "effect" = some (.ref a_effect)
  a_is_word : Addr
  fd_is_word : FuncData
  F_is_word : Fun K "_is_word" "_is_word" s_is_word a_is_word fd_is_word
  b_is_word : Binds K fd_is_word ["word"] []
  g_is_word : mg "_is_word" = some (.ref a_is_word)
  a_is_triple : Addr
  fd_is_triple : FuncData
  F_is_triple : Fun K "_is_triple" "_is_triple" s_is_triple a_is_triple fd_is_triple
  b_is_triple : Binds K fd_is_triple ["triple"] []
  g_is_triple : mg "_is_triple" = some (.ref a_is_triple)
  a_law_mixed : Addr
  fd_law_mixed : FuncData
  F_law_mixed : Fun K "_law_mixed" "_law_mixed" s_law_mixed a_law_mixed fd_law_mixed
  b_law_mixed : Binds K fd_law_mixed ["number", "k"] []
  g_law_mixed : mg "_law_mixed" = some (.ref a_law_mixed)
  a_law_numbers : Addr
  fd_law_numbers : FuncData
  F_law_numbers : Fun K "_law_numbers" "_law_numbers" s_law_numbers a_law_numbers fd_law_numbers
  b_law_numbers : Binds K fd_law_numbers ["script"] []
  g_law_numbers : mg "_law_numbers" = some (.ref a_law_numbers)
  a_law_draw : Addr
  fd_law_draw : FuncData
  F_law_draw : Fun K "_law_draw" "_law_draw" s_law_draw a_law_draw fd_law_draw
  b_law_draw : Binds K fd_law_draw ["draws"] []
  g_law_draw : mg "_law_draw" = some (.ref a_law_draw)
  a_law_equal : Addr
  fd_law_equal : FuncData
  F_law_equal : Fun K "_law_equal" "_law_equal" s_law_equal a_law_equal fd_law_equal
  b_law_equal : Binds K fd_law_equal ["actual", "due"] []
  g_law_equal : mg "_law_equal" = some (.ref a_law_equal)
  a_law_all_equal : Addr
  fd_law_all_equal : FuncData
  F_law_all_equal : Fun K "_law_all_equal" "_law_all_equal" s_law_all_equal a_law_all_equal fd_law_all_equal
  b_law_all_equal : Binds K fd_law_all_equal ["actual", "due"] []
  g_law_all_equal : mg "_law_all_equal" = some (.ref a_law_all_equal)
  a_law_bits : Addr
  fd_law_bits : FuncData
  F_law_bits : Fun K "_law_bits" "_law_bits" s_law_bits a_law_bits fd_law_bits
  b_law_bits : Binds K fd_law_bits ["draws"] []
  g_law_bits : mg "_law_bits" = some (.ref a_law_bits)
  a_law_permutation : Addr
  fd_law_permutation : FuncData
  F_law_permutation : Fun K "_law_permutation" "_law_permutation" s_law_permutation a_law_permutation fd_law_permutation
  b_law_permutation : Binds K fd_law_permutation ["draws"] []
  g_law_permutation : mg "_law_permutation" = some (.ref a_law_permutation)
  a_law_sent : Addr
  fd_law_sent : FuncData
  F_law_sent : Fun K "_law_sent" "_law_sent" s_law_sent a_law_sent fd_law_sent
  b_law_sent : Binds K fd_law_sent ["word", "bits", "point"] []
  g_law_sent : mg "_law_sent" = some (.ref a_law_sent)
  a_law_lacks : Addr
  fd_law_lacks : FuncData
  F_law_lacks : Fun K "_law_lacks" "_law_lacks" s_law_lacks a_law_lacks fd_law_lacks
  b_law_lacks : Binds K fd_law_lacks ["word", "bits"] []
  g_law_lacks : mg "_law_lacks" = some (.ref a_law_lacks)
  a_law : Addr
  fd_law : FuncData
  F_law : Fun K "law" "law" s_law a_law fd_law
  b_law : Binds K fd_law ["script"] []
  g_law : mg "law" = some (.ref a_law)
  E_BrimfulError : Addr
  gE_BrimfulError : mg "BrimfulError" = some (.ref E_BrimfulError)
  xE_BrimfulError : PySem.W.excIn K E_BrimfulError [.type "ValueError", .type "Exception", .type "BaseException", .type "object"] "ValueError.__new__" = true
  kE_BrimfulError : PySem.W.keepIn K (.ref E_BrimfulError) = true
  bE_BrimfulError : PySem.W.subIn K (.ref E_BrimfulError) (.type "BaseException") = some true
  tE_BrimfulError : PySem.W.typeIn K (.ref E_BrimfulError) = some (.type "type")
  dE_BrimfulError : PySem.W.hasDictIn K E_BrimfulError = true
  cE_BrimfulError : L2.ExcC K E_BrimfulError
  E_BadMemory : Addr
  gE_BadMemory : mg "BadMemory" = some (.ref E_BadMemory)
  xE_BadMemory : PySem.W.excIn K E_BadMemory [.type "ValueError", .type "Exception", .type "BaseException", .type "object"] "ValueError.__new__" = true
  kE_BadMemory : PySem.W.keepIn K (.ref E_BadMemory) = true
  bE_BadMemory : PySem.W.subIn K (.ref E_BadMemory) (.type "BaseException") = some true
  tE_BadMemory : PySem.W.typeIn K (.ref E_BadMemory) = some (.type "type")
  dE_BadMemory : PySem.W.hasDictIn K E_BadMemory = true
  cE_BadMemory : L2.ExcC K E_BadMemory
  E_BadWord : Addr
  gE_BadWord : mg "BadWord" = some (.ref E_BadWord)
  xE_BadWord : PySem.W.excIn K E_BadWord [.type "ValueError", .type "Exception", .type "BaseException", .type "object"] "ValueError.__new__" = true
  kE_BadWord : PySem.W.keepIn K (.ref E_BadWord) = true
  bE_BadWord : PySem.W.subIn K (.ref E_BadWord) (.type "BaseException") = some true
  tE_BadWord : PySem.W.typeIn K (.ref E_BadWord) = some (.type "type")
  dE_BadWord : PySem.W.hasDictIn K E_BadWord = true
  cE_BadWord : L2.ExcC K E_BadWord
  sE_BrimfulError_BrimfulError : PySem.W.subIn K (.ref E_BrimfulError) (.ref E_BrimfulError) = some true
  sE_BrimfulError_BadMemory : PySem.W.subIn K (.ref E_BrimfulError) (.ref E_BadMemory) = some false
  sE_BrimfulError_BadWord : PySem.W.subIn K (.ref E_BrimfulError) (.ref E_BadWord) = some false
  sE_BadMemory_BrimfulError : PySem.W.subIn K (.ref E_BadMemory) (.ref E_BrimfulError) = some true
  sE_BadMemory_BadMemory : PySem.W.subIn K (.ref E_BadMemory) (.ref E_BadMemory) = some true
  sE_BadMemory_BadWord : PySem.W.subIn K (.ref E_BadMemory) (.ref E_BadWord) = some false
  sE_BadWord_BrimfulError : PySem.W.subIn K (.ref E_BadWord) (.ref E_BrimfulError) = some true
  sE_BadWord_BadMemory : PySem.W.subIn K (.ref E_BadWord) (.ref E_BadMemory) = some false
  sE_BadWord_BadWord : PySem.W.subIn K (.ref E_BadWord) (.ref E_BadWord) = some true
  m_all : mg "all" = none
  m_bool : mg "bool" = none
  m_int : mg "int" = none
  m_isinstance : mg "isinstance" = none
  m_len : mg "len" = none
  m_list : mg "list" = none
  m_max : mg "max" = none
  m_range : mg "range" = none
  m_set : mg "set" = none
  m_str : mg "str" = none
  m_tuple : mg "tuple" = none
  t_MOST_INPUTS : Tok
  c_MOST_INPUTS : mg "MOST_INPUTS" = some (.int 60 t_MOST_INPUTS)
  t_MOST_TRIPLES : Tok
  c_MOST_TRIPLES : mg "MOST_TRIPLES" = some (.int 20000 t_MOST_TRIPLES)
  t_POINTS : Tok
  c_POINTS : mg "POINTS" = some (.int 5 t_POINTS)
end Br
namespace Br
open PySem PySem.Spec PyProof.Rows L2
local macro_rules | `(tactic| walk_at "x1") => `(tactic| (with_reducible first
  | refine Br.x_seq ?_ | refine Br.x_set ?_ | refine Br.x_asg ?_ | refine Br.x_next ?_ | refine Br.x_ret ?_ | refine Br.x_retN ?_ | refine Br.x_drop ?_ | refine Br.x_if ?_ | refine Br.x_brk ?_ | refine Br.x_cont ?_
  | refine Br.x_c ?_ | refine Br.x_op ?_ | refine Br.x_un ?_ | refine Br.x_I0 ?_ | refine Br.x_U ?_ | refine Br.x_EqI ?_ | refine Br.x_NeI ?_ | refine Br.x_EqB ?_ | refine Br.x_iN ?_ | refine Br.x_int1 ?_ | refine Br.x_min2 ?_ | refine Br.x_max2 ?_ | refine Br.x_nN ?_ | refine Br.x_ifE ?_
  | refine Br.x_test (b := ()) ?_ | refine Br.x_tB ?_ | refine Br.x_bl ?_ | refine Br.x_and ?_ | refine Br.x_or ?_ | refine Br.x_not ?_ | refine Br.x_andV ?_ | refine Br.x_orV ?_ | refine Br.x_notV ?_ | refine Br.x_blP ?_
  | refine Br.x_nil ?_ | refine Br.x_cons ?_ | refine Br.x_call ?_ | refine Br.x_CB ?_ | refine Br.x_BM ?_ | refine Br.x_tup ?_ | refine Br.x_lst ?_ | refine Br.x_chain ?_ | refine Br.x_par ?_ | refine Br.x_gSub ?_ | refine Br.x_gName ?_ | refine Br.x_fld ?_ | refine Br.x_fldS ?_ | refine Br.x_match ?_ | refine Br.x_else ?_ | refine Br.x_noCase ?_))
local macro_rules | `(tactic| walk_at "xv") => `(tactic| ((with_reducible refine' Br.x_var ?hvar ?_); (case hvar => rfl)))
local macro_rules | `(tactic| walk_at "xd") => `(tactic| (dsimp only [List.set_cons_zero, List.set_cons_succ, List.cons_append, List.nil_append, List.append_nil]))
local macro_rules | `(tactic| walk_at "xi") => `(tactic| ((with_reducible refine Br.x_I ?hside ?_); (case hside => first | exact Br.mul_r (by decide) (by decide) | exact Br.mul_l (by decide) (by decide) | exact Br.mul_l (by omega) (by omega) | exact Br.mul_r (by omega) (by omega) | (show (0 : Int) < _; first | decide | omega) | exact ⟨by decide, by decide⟩ | exact ⟨by omega, by omega⟩ | exact ⟨by decide, by decide, by decide⟩)))
local macro_rules | `(tactic| walk_at "x") => `(tactic| (repeat (first | walk_at "x1" | walk_at "xv" | walk_at "xi" | walk_at "xd")))
local macro_rules | `(tactic| walk_at "start") => `(tactic| (simp only [L2.start, List.map_cons, List.map_nil, List.length_cons, List.length_nil, Nat.reduceAdd, Nat.reduceSub, List.replicate, List.cons_append, List.nil_append, List.append_nil]))
local macro_rules | `(tactic| walk_at "isi") => `(tactic| first
  | refine Br.x_isi (b := true) (.base (.int _)) (by decide +kernel) ?_ | refine Br.x_isi (b := false) (.base (.int _)) (by decide +kernel) ?_
  | refine Br.x_isi (b := true) (.base (.bl _)) (by decide +kernel) ?_ | refine Br.x_isi (b := false) (.base (.bl _)) (by decide +kernel) ?_
  | refine Br.x_isi (b := false) (.base .non) (by decide +kernel) ?_
  | refine Br.x_isi (b := true) (.base (.str _)) (by decide +kernel) ?_ | refine Br.x_isi (b := false) (.base (.str _)) (by decide +kernel) ?_
  | refine Br.x_isi (b := true) (.base (.tup (by assumption))) (by decide +kernel) ?_ | refine Br.x_isi (b := false) (.base (.tup (by assumption))) (by decide +kernel) ?_
  | refine Br.x_isi (b := true) (.base (.lst (by assumption))) (by decide +kernel) ?_ | refine Br.x_isi (b := false) (.base (.lst (by assumption))) (by decide +kernel) ?_)
local macro_rules | `(tactic| walk_at "f") => `(tactic| (refine L2.iteF ?_; walk_at "x"))
local macro_rules | `(tactic| walk_at "t") => `(tactic| (refine L2.iteT ?_; walk_at "x"))
local macro_rules | `(tactic| walk_at "is") => `(tactic| (walk_at "isi"; walk_at "x"))
local macro_rules | `(tactic| walk_at "xb") => `(tactic| (simp only [Br.bindS, List.set_cons_zero, List.set_cons_succ]; walk_at "x"))

section
variable {P : Program} {w : World} {K : PySem.W.Frag} {mg : Str → Option Value} {base : Heap}

/-! ### the draws -/
/-- the draws at d: a list of a list of numbers (at n) and a place -/
def Dr (H : Hp) (d n : Addr) : Prop := ∃ (ns : List Int) (k : Int), H d = some (.lst [.ref n, .int k]) ∧ H n = some (.lst (ns.map V.int)) ∧ Rg 0 1000000 ns ∧ 0 ≤ k ∧ ns.length ≤ 3780
theorem Dr.ne {H : Hp} {d n : Addr} (h : Dr H d n) : H d ≠ none := by
  obtain ⟨_, _, h, _⟩ := h
  rw [h]
  exact fun z => nomatch z
theorem Dr.new {H : Hp} {d n p : Addr} (h : Dr H d n) (hp : H p = none) : p ≠ d := fun e => h.ne (e ▸ hp)
theorem Dr.newN {H : Hp} {d n p : Addr} (h : Dr H d n) (hp : H p = none) : p ≠ n := fun e => by
  obtain ⟨_, _, _, h2, _⟩ := h
  rw [← e, hp] at h2
  cases h2
theorem Dr.dn {H : Hp} {d n : Addr} (h : Dr H d n) : d ≠ n := by
  obtain ⟨ns, k, h1, h2, _⟩ := h
  exact ne_of h1 h2 (by
    intro e
    have e1 : [V.ref n, V.int k] = ns.map V.int := HO.lst.inj e
    cases ns with
    | nil => cases e1
    | cons x r => cases (List.cons.inj e1).1)
/-- changes elsewhere -/
theorem Dr.upd {H : Hp} {d n p : Addr} {o : HO} (h : Dr H d n) (hd : p ≠ d) (hn : p ≠ n) : Dr (upd H p o) d n := by
  obtain ⟨ns, k, h1, h2, h3⟩ := h
  exact ⟨ns, k, by rw [upd_ne hd.symm]; exact h1, by rw [upd_ne hn.symm]; exact h2, h3⟩
theorem Dr.upd0 {H : Hp} {d n p : Addr} {o : HO} (h : Dr H d n) (hp : H p = none) : Dr (L2.upd H p o) d n := h.upd (h.new hp) (h.newN hp)
theorem Dr.same {H H' : Hp} {d n : Addr} (h : Dr H d n) (s : Same H H') : Dr H' d n := by
  obtain ⟨ns, k, h1, h2, h3⟩ := h
  exact ⟨ns, k, s _ _ h1, s _ _ h2, h3⟩
/-- what is fresh behind was fresh ahead -/
theorem Keep.free {H H' : Hp} {d n p : Addr} (s : Keep d H H') (h : Dr H' d n) (hp : H' p = none) : H p = none := by
  cases e : H p with
  | none => rfl
  | some o =>
    by_cases hd : p = d
    · rw [hd] at hp
      exact absurd hp h.ne
    · rw [s p o e hd] at hp
      cases hp
theorem Dr.mk {H : Hp} {d n : Addr} {ns : List Int} (hn : H n = some (.lst (ns.map V.int))) (hr : Rg 0 1000000 ns) (hl : ns.length ≤ 3780) (hd : H d = none) : Dr (L2.upd H d (.lst [.ref n, .int 0])) d n :=
  ⟨ns, 0, upd_same, by rw [upd_ne (ne_of_none hn hd)]; exact hn, hr, Int.le_refl _, hl⟩
/-- what a def that draws gives: a value of which P, the draws moved on -/
abbrev RetD (d n : Addr) (P : V → Prop) (H : Hp) (Q : VK) : Prop := ∀ v H', P v → Dr H' d n → Keep d H H' → Q v H'
abbrev RetG (d n : Addr) (P : V → Hp → Prop) (H : Hp) (Q : VK) : Prop := ∀ v H', P v H' → Dr H' d n → Keep d H H' → Q v H'
abbrev IsI (lo hi : Int) : V → Prop := fun v => ∃ z : Int, v = .int z ∧ lo ≤ z ∧ z < hi

def sp_law_mixed (K : PySem.W.Frag) : Sp := fun vs H Q _ => ∃ i k : Int, vs = [.int i, .int k] ∧ ∀ r : Int, 0 ≤ r → r < 2147483647 → Q (.int r) H
theorem ok_law_mixed (T : Txt K mg) : FnOk P w K mg base CX0 1 T.a_law_mixed T.fd_law_mixed ["number", "k"] (sp_law_mixed K) := by
  refine T.F_law_mixed.ok sc_law_mixed (fun vs H Q E h => ?_) (fun cdv A outer s H vs Q E hr h => ?_)
  · obtain ⟨i, k, rfl, _⟩ := h
    rfl
  · obtain ⟨i, k, rfl, q⟩ := h
    refine ⟨_, (pss_cons (ps_set (i := 2) sc_law_mixed.nd rfl (.inl rfl) (pe_op op_mod (pe_op op_add (pe_op op_add (pe_op op_mul (pv 0) pe_int) (pe_op op_mul (pv 1) pe_int)) pe_int) pe_int))
      (pss_one (ps_ret (pe_op op_mod (pe_op op_add (pe_op op_mul (pv 2) (pe_op op_add (pe_op op_fdiv (pv 2) pe_int) pe_int)) (pv 1)) pe_int)))), ?_⟩
    walk_at "start"
    walk_at "x"
    exact q _ (Int.emod_nonneg _ (by decide)) (Int.emod_lt_of_pos _ (by decide))


def sp_law_numbers (K : PySem.W.Frag) : Sp := fun vs H Q _ => ∃ (a : Addr) (ns : List Int), vs = [.ref a] ∧ SqL K H a (ns.map V.int) ∧ ns.length ≤ 63 ∧
  ∀ (p : Addr) (ms : List Int) (H' : Hp), H p = none → Same H H' → H' p = some (.lst (ms.map V.int)) → Rg 0 1000000 ms → ms.length ≤ 3780 → Q (.ref p) H'
/-- the numbers so far -/
def NumI (H : Hp) (p : Addr) (n : Nat) (H' : Hp) : Prop := ∃ ms : List Int, Same H H' ∧ H' p = some (.lst (ms.map V.int)) ∧ Rg 0 1000000 ms ∧ ms.length ≤ n
theorem NumI.app {H H' : Hp} {p : Addr} {n : Nat} (h : NumI H p n H') (hp : H p = none) (hn : n ≤ 100000) {R : VK} {z : Int} (h1 : 0 ≤ z) (h2 : z < 1000000) (q : ∀ H2, NumI H p (n + 1) H2 → R .non H2) : rAppend (.ref p) [.int z] H' R := by
  obtain ⟨ms, s, e, r, l⟩ := h
  refine x_app e (by rw [List.length_map]; omega) (q _ ⟨ms ++ [z], sput s hp, ?_, r.snoc h1 h2, ?_⟩)
  · rw [upd_same, List.map_append]; rfl
  · rw [List.length_append]; exact Nat.add_le_add_right l 1
theorem NumI.ty {K : PySem.W.Frag} {H H' : Hp} {p : Addr} {n : Nat} (h : NumI H p n H') {R : Prop} (q : R) : tyV K "list" (.ref p) H' ∧ R := by
  obtain ⟨ms, s, e, r, l⟩ := h
  exact x_tyL e q
theorem NumI.mono {H H' : Hp} {p : Addr} {n m : Nat} (h : NumI H p n H') (l : n ≤ m) : NumI H p m H' := by
  obtain ⟨ms, s, e, r, k⟩ := h
  exact ⟨ms, s, e, r, Nat.le_trans k l⟩
theorem ok_law_numbers (T : Txt K mg) : FnOk P w K mg base CX0 2 T.a_law_numbers T.fd_law_numbers ["script"] (sp_law_numbers K) := by
  refine T.F_law_numbers.ok sc_law_numbers (fun vs H Q E h => ?_) (fun cdv A outer s H vs Q E hr h => ?_)
  · obtain ⟨a, ns, rfl, _⟩ := h
    rfl
  · obtain ⟨a, ns, rfl, hS, hl, q⟩ := h
    refine ⟨_, (pss_cons (ps_set (i := 1) sc_law_numbers.nd rfl (.inl rfl) (pe_lst pa_nil))
      (pss_cons (ps_for PassesOwn.never rfl (pi_list (pv 0)) (pg_name (i := 2) sc_law_numbers.nd rfl (Or.inl rfl))
      (pss_one (ps_if (pt_cmpR op_ge (pv 2) (pe_op op_pow pe_int pe_int) (nomark _))
      (pss_cons (ps_set (i := 3) sc_law_numbers.nd rfl (.inl rfl) (pv 2))
      (pss_one (ps_for PassesOwn.never rfl (pi_range1 (by rfl) T.m_range (pa_cons pe_int pa_nil)) (pg_name (i := 4) sc_law_numbers.nd rfl (Or.inl rfl))
      (pss_one (ps_if (pt_cmpR op_gt (pv 3) pe_int (nomark _))
      (pss_cons (ps_expr (pe_bm PySem.F.plainAttrs_list PySem.F.slot_list_append PySem.F.type_list_append mt_append (pv 1) (pa_cons (pe_op op_mod (pv 3) pe_int) pa_nil)))
      (pss_one (ps_set (i := 3) sc_law_numbers.nd rfl (.inl rfl) (pe_op op_fdiv (pv 3) pe_int))))
      pss_nil)))))
      (pss_cons (ps_expr (pe_bm PySem.F.plainAttrs_list PySem.F.slot_list_append PySem.F.type_list_append mt_append (pv 1) (pa_cons (pe_op op_mod (pv 2) pe_int) pa_nil)))
      (pss_one (ps_for PassesOwn.never rfl (pi_range1 (by rfl) T.m_range (pa_cons pe_int pa_nil)) (pg_name (i := 4) sc_law_numbers.nd rfl (Or.inl rfl))
      (pss_one (ps_expr (pe_bm PySem.F.plainAttrs_list PySem.F.slot_list_append PySem.F.type_list_append mt_append (pv 1) (pa_cons (pe_op op_mod (pe_call (ok_law_mixed T) hr (by rfl) T.g_law_mixed T.F_law_mixed.kp T.b_law_mixed .nil pass0 (pa_cons (pe_call (ok_law_mixed T) hr (by rfl) T.g_law_mixed T.F_law_mixed.kp T.b_law_mixed .nil pass0 (pa_cons (pe_op op_mod (pv 2) pe_int) (pa_cons (pv 4) pa_nil))) (pa_cons (pe_op op_add (pv 4) pe_int) pa_nil))) pe_int) pa_nil))))))))))
      (pss_one (ps_ret (pv 1))))), ?_⟩
    walk_at "start"
    walk_at "x"
    refine ⟨Nat.zero_le _, fun p hp => ?_⟩
    walk_at "x"
    refine x_forL (p := a) (ns.map V.int) (fun i σ' H' => ∃ v2 v3 v4, σ' = [some (.ref a), some (.ref p), v2, v3, v4] ∧ NumI H p (60 * i) H') (fun R r => ⟨_, rfl, r⟩) ((same_upd hp).seq hS) ?_ ?_ ?_ ?_
    · exact ⟨none, none, none, rfl, [], same_upd hp, upd_same, .nil, Nat.le_refl _⟩
    · rintro i σ' H' hi ⟨v2, v3, v4, rfl, ms, s, _⟩
      exact s.seq hS
    · rintro i x σ' H' hx ⟨v2, v3, v4, rfl, hN⟩
      obtain ⟨z, hz, rfl⟩ := map_get hx
      have hi : i < 63 := by
        have := (List.getElem?_eq_some_iff.mp hz).1
        omega
      walk_at "x"
      refine x_ite (fun hc => ?_) (fun hc => ?_)
      · walk_at "x"
        refine x_forR1 60 (fun j σ' H' => ∃ r v4, σ' = [some (.ref a), some (.ref p), some (.int z), some (.int r), v4] ∧ NumI H p (60 * i + j) H') (fun R r => r) (by decide) (by decide) ⟨z, v4, rfl, hN⟩ ?_ ?_
        · rintro j σ' H2 hj ⟨r, v4, rfl, hN⟩
          walk_at "x"
          refine x_ite (fun hc => ?_) (fun hc => ?_)
          · walk_at "x"
            refine hN.ty ?_
            walk_at "x"
            refine hN.app hp (by omega) (Int.emod_nonneg _ (by decide)) (Int.emod_lt_of_pos _ (by decide)) fun H3 hN3 => ?_
            walk_at "x"
            exact ⟨_, _, rfl, hN3⟩
          · walk_at "x"
            exact ⟨r, _, rfl, hN.mono (by omega)⟩
        · rintro σ' H2 ⟨r, v4, rfl, hN⟩
          exact ⟨_, _, _, rfl, hN.mono (by show 60 * i + (60 : Int).toNat ≤ 60 * (i + 1); omega)⟩
      · walk_at "x"
        refine hN.ty ?_
        walk_at "x"
        refine hN.app hp (by omega) (Int.emod_nonneg _ (by decide)) (Int.emod_lt_of_pos _ (by decide)) fun H3 hN3 => ?_
        walk_at "x"
        refine x_forR1 5 (fun j σ' H' => ∃ v4, σ' = [some (.ref a), some (.ref p), some (.int z), v3, v4] ∧ NumI H p (60 * i + 1 + j) H') (fun R r => r) (by decide) (by decide) ⟨v4, rfl, hN3⟩ ?_ ?_
        · rintro j σ' H2 hj ⟨v4, rfl, hN⟩
          walk_at "x"
          refine hN.ty ?_
          walk_at "x"
          refine ⟨_, _, rfl, fun r h0 h1 => ?_⟩
          walk_at "x"
          refine ⟨_, _, rfl, fun r h0 h1 => ?_⟩
          walk_at "x"
          refine hN.app hp (by omega) (Int.emod_nonneg _ (by decide)) (Int.emod_lt_of_pos _ (by decide)) fun H3 hN3 => ?_
          walk_at "x"
          exact ⟨_, rfl, hN3⟩
        · rintro σ' H2 ⟨v4, rfl, hN⟩
          exact ⟨_, _, _, rfl, hN.mono (by show 60 * i + 1 + (5 : Int).toNat ≤ 60 * (i + 1); omega)⟩
    · rintro σ' H' ⟨v2, v3, v4, rfl, ms, s, e, r, l⟩
      walk_at "x"
      exact q p ms H' hp s e r (by rw [List.length_map] at l; omega)


def sp_law_draw (K : PySem.W.Frag) : Sp := fun vs H Q _ => ∃ (d n : Addr), vs = [.ref d] ∧ Dr H d n ∧ RetD d n (IsI 0 1000000) H Q
theorem ok_law_draw (T : Txt K mg) : FnOk P w K mg base CX0 2 T.a_law_draw T.fd_law_draw ["draws"] (sp_law_draw K) := by
  refine T.F_law_draw.ok sc_law_draw (fun vs H Q E h => ?_) (fun cdv A outer s H vs Q E hr h => ?_)
  · obtain ⟨d, n, rfl, _⟩ := h
    rfl
  · obtain ⟨d, n, rfl, hD, q⟩ := h
    have hn := hD.dn
    obtain ⟨ns, k, h1, h2, h3, h4, h5⟩ := hD
    have hD : Dr (upd H d (.lst [.ref n, .int (k + 1)])) d n := ⟨ns, k + 1, upd_same, by rw [upd_ne hn.symm]; exact h2, h3, by omega, h5⟩
    refine ⟨_, (pss_cons (ps_set (i := 1) sc_law_draw.nd rfl (.inl rfl) (pe_ix (r := rIxL K) ix_list (pv 0) pe_int (fun _ _ => rfl)))
      (pss_cons (ps_asg (pe_op op_add (pv 1) pe_int) (pg_sub (pv 0) pe_int set_list))
      (pss_cons (ps_if (pt_cmpR op_lt (pv 1) (pe_callB (id := "len") (r := rLen K) cr_len (by rfl) T.m_len PySem.boot_len (pa_cons (pe_ix (r := rIxL K) ix_list (pv 0) pe_int (fun _ _ => rfl)) pa_nil)) (nomark _))
      (pss_one (ps_ret (pe_ix (r := rIxL K) ix_list (pe_ix (r := rIxL K) ix_list (pv 0) pe_int (fun _ _ => rfl)) (pv 1) (fun _ _ => rfl))))
      pss_nil)
      (pss_cons (ps_set (i := 2) sc_law_draw.nd rfl (.inl rfl) (pe_op op_add pe_int (pv 1)))
      (pss_cons (ps_if (pt_cmpR op_gt (pe_callB (id := "len") (r := rLen K) cr_len (by rfl) T.m_len PySem.boot_len (pa_cons (pe_ix (r := rIxL K) ix_list (pv 0) pe_int (fun _ _ => rfl)) pa_nil)) pe_int (nomark _))
      (pss_one (ps_set (i := 2) sc_law_draw.nd rfl (.inl rfl) (pe_op op_add (pv 2) (pe_op op_mul pe_int (pe_ix (r := rIxL K) ix_list (pe_ix (r := rIxL K) ix_list (pv 0) pe_int (fun _ _ => rfl)) pe_int (fun _ _ => rfl))))))
      pss_nil)
      (pss_one (ps_ret (pe_op op_mod (pe_call (ok_law_mixed T) hr (by rfl) T.g_law_mixed T.F_law_mixed.kp T.b_law_mixed .nil pass0 (pa_cons (pe_call (ok_law_mixed T) hr (by rfl) T.g_law_mixed T.F_law_mixed.kp T.b_law_mixed .nil pass0 (pa_cons (pv 2) (pa_cons (pv 1) pa_nil))) (pa_cons pe_int pa_nil))) pe_int)))))))), ?_⟩
    walk_at "start"
    walk_at "x"
    refine x_ixL (sq_of h1) (show _ = some (V.int k) from rfl) ?_
    walk_at "x"
    refine x_subL (k := 1) h1 rfl ?_
    walk_at "x"
    have hd : (upd H d (HO.lst [.ref n, .int (k + 1)])) d = some (.lst [.ref n, .int (k + 1)]) := upd_same
    have hnn : (upd H d (HO.lst [.ref n, .int (k + 1)])) n = some (.lst (ns.map V.int)) := by rw [upd_ne hn.symm]; exact h2
    refine x_ixL (sq_of hd) (show _ = some (V.ref n) from rfl) ?_
    walk_at "x"
    refine x_len (sq_of hnn) ?_
    walk_at "x"
    rw [List.length_map]
    refine x_ite (fun hc => ?_) (fun hc => ?_)
    · walk_at "x"
      refine x_ixL (sq_of hd) (show _ = some (V.ref n) from rfl) ?_
      walk_at "x"
      obtain ⟨j, rfl⟩ : ∃ j : Nat, k = (j : Int) := ⟨k.toNat, by omega⟩
      have hj : j < ns.length := by omega
      refine x_ixL (v := .int ns[j]) (sq_of hnn) (atI_nat (by rw [List.getElem?_map, List.getElem?_eq_getElem hj]; rfl)) ?_
      exact q _ _ ⟨_, rfl, h3 _ (List.getElem_mem hj)⟩ hD keep_upd
    · walk_at "x"
      refine x_ixL (sq_of hd) (show _ = some (V.ref n) from rfl) ?_
      walk_at "x"
      refine x_len (sq_of hnn) ?_
      walk_at "x"
      rw [List.length_map]
      refine x_ite (fun hc => ?_) (fun hc => ?_)
      · walk_at "x"
        refine x_ixL (sq_of hd) (show _ = some (V.ref n) from rfl) ?_
        walk_at "x"
        have hj : 0 < ns.length := by omega
        refine x_ixL (v := .int ns[0]) (sq_of hnn) (atI_nat (j := 0) (by rw [List.getElem?_map, List.getElem?_eq_getElem hj]; rfl)) ?_
        walk_at "x"
        refine ⟨_, _, rfl, fun r h0 h1 => ?_⟩
        walk_at "x"
        refine ⟨_, _, rfl, fun r h0 h1 => ?_⟩
        walk_at "x"
        exact q _ _ ⟨_, rfl, Int.emod_nonneg _ (by decide), Int.emod_lt_of_pos _ (by decide)⟩ hD keep_upd
      · walk_at "x"
        refine ⟨_, _, rfl, fun r h0 h1 => ?_⟩
        walk_at "x"
        refine ⟨_, _, rfl, fun r h0 h1 => ?_⟩
        walk_at "x"
        exact q _ _ ⟨_, rfl, Int.emod_nonneg _ (by decide), Int.emod_lt_of_pos _ (by decide)⟩ hD keep_upd






/-- a value of any kind that the laws put in -/
inductive Odd (H : Hp) : V → Prop
  | int (i : Int) : Odd H (.int i)
  | bl (b : Bool) : Odd H (.bl b)
  | non : Odd H .non
  | str (x : Str) : Odd H (.str x)
  | tup (a : Addr) (xs : List V) (h : H a = some (.tup xs)) : Odd H (.ref a)
  | lst (a : Addr) (xs : List V) (h : H a = some (.lst xs)) : Odd H (.ref a)
theorem Odd.same {H H' : Hp} {v : V} (h : Odd H v) (s : Same H H') : Odd H' v := by
  cases h with
  | int i => exact .int i
  | bl b => exact .bl b
  | non => exact .non
  | str x => exact .str x
  | tup a xs h => exact .tup a xs (s _ _ h)
  | lst a xs h => exact .lst a xs (s _ _ h)
def isB (v : V) (b : Int) : Bool := match v with
  | .int i => decide (0 ≤ i) && decide (i < b)
  | _ => false
theorem isB_int {i b : Int} (h0 : 0 ≤ i) (h1 : i < b) : isB (.int i) b = true := by
  show (decide (0 ≤ i) && decide (i < b)) = true
  rw [decide_eq_true h0, decide_eq_true h1]; rfl

def sp_is_below (K : PySem.W.Frag) : Sp := fun vs H Q _ => ∃ (v : V) (b : Int), vs = [v, .int b] ∧ Odd H v ∧ Q (.bl (isB v b)) H
theorem ok_is_below (T : Txt K mg) : FnOk P w K mg base CX0 1 T.a_is_below T.fd_is_below ["value", "bound"] (sp_is_below K) := by
  refine T.F_is_below.ok sc_is_below (fun vs H Q E h => ?_) (fun cdv A outer s H vs Q E hr h => ?_)
  · obtain ⟨v, b, rfl, _⟩ := h
    rfl
  · obtain ⟨v, b, rfl, hv, q⟩ := h
    refine ⟨_, (pss_one (ps_ret (pe_and (pe_callB (id := "isinstance") (r := rIsi K) call_isi (by rfl) T.m_isinstance (by decide +kernel) (pa_cons (pv 0) (pa_cons (pe_bltn (v := .ty "int") (by rfl) T.m_int (by decide +kernel) rfl) pa_nil))) (pe_and (pe_not (pe_callB (id := "isinstance") (r := rIsi K) call_isi (by rfl) T.m_isinstance (by decide +kernel) (pa_cons (pv 0) (pa_cons (pe_bltn (v := .ty "bool") (by rfl) T.m_bool (by decide +kernel) rfl) pa_nil)))) (pe_one (pe_chain op_le op_lt pe_int (pv 0) (pv 1))))))), ?_⟩
    walk_at "start"
    cases hv with
    | int i =>
      walk_at "x"
      walk_at "is"
      walk_at "t"
      walk_at "is"
      walk_at "t"
      refine x_ite (fun h0 => ?_) (fun h0 => ?_)
      · walk_at "x"
        have e : isB (.int i) b = decide (i < b) := by show (decide (0 ≤ i) && decide (i < b)) = _; rw [decide_eq_true h0]; rfl
        rw [← e]; exact q
      · have e : isB (.int i) b = false := by show (decide (0 ≤ i) && decide (i < b)) = _; rw [decide_eq_false h0]; rfl
        rw [← e]; exact q
    | bl x =>
      walk_at "x"
      walk_at "is"
      walk_at "t"
      walk_at "is"
      walk_at "f"
      exact q
    | non =>
      walk_at "x"
      walk_at "is"
      walk_at "f"
      exact q
    | str x =>
      walk_at "x"
      walk_at "is"
      walk_at "f"
      exact q
    | tup a xs h =>
      walk_at "x"
      walk_at "is"
      walk_at "f"
      exact q
    | lst a xs h =>
      walk_at "x"
      walk_at "is"
      walk_at "f"
      exact q


open Br
theorem DAt.odd {d : Addr} {H : Hp} {v : V} {e : PyData} (h : DAt d H v e) : Odd H v := by
  cases h with
  | non => exact .non
  | bl b => exact .bl b
  | int i => exact .int i
  | str x => exact .str x
  | lst hd h hs => exact .lst _ _ h
  | tup h hs => exact .tup _ _ h
theorem DAt.isB {d : Addr} {H : Hp} {v : V} {e : PyData} (h : DAt d H v e) {b : Int} : isB v b = isBD b e := by
  cases h <;> rfl
theorem range_allD {ds : List PyData} {f : PyData → Bool} : ((List.range ds.length).map fun i => f (ds.getD i .none)).all id = ds.all f := by
  have e : (List.range ds.length).map (fun i => f (ds.getD i .none)) = ds.map f := by
    apply List.ext_getElem?
    intro i
    rw [List.getElem?_map, List.getElem?_map]
    by_cases h : i < ds.length
    · rw [List.getElem?_range h, List.getElem?_eq_getElem h]
      show some (f (ds.getD i .none)) = some (f ds[i])
      rw [List.getD_eq_getElem?_getD, List.getElem?_eq_getElem h]; rfl
    · rw [List.getElem?_eq_none (by simpa using h), List.getElem?_eq_none (by simpa using h)]
      rfl
  rw [e, List.all_map]
  rfl
theorem getDD {ds : List PyData} {i : Nat} {e : PyData} (h : ds[i]? = some e) : ds.getD i .none = e := by rw [List.getD_eq_getElem?_getD, h]; rfl

def sp_are_bits (K : PySem.W.Frag) : Sp := fun vs H Q _ => ∃ (d : Addr) (v : V) (e : PyData) (n : Int), vs = [v, .int n] ∧ DAt d H v e ∧ (∀ es, e = .list es → es.length ≤ 100000) ∧ ∀ H', Same H H' → Q (.bl (bitsD n e)) H'
theorem ok_are_bits (T : Txt K mg) : FnOk P w K mg base CX0 1 T.a_are_bits T.fd_are_bits ["values", "least"] (sp_are_bits K) := by
  refine T.F_are_bits.ok sc_are_bits (fun vs H Q E h => ?_) (fun cdv A outer s H vs Q E hr h => ?_)
  · obtain ⟨d, v, e, n, rfl, _⟩ := h
    rfl
  · obtain ⟨d, v, e, n, rfl, hv, hl, q⟩ := h
    refine ⟨_, (pss_cons (ps_if (PW.pt (pw_or (pt_not (pt_val (pe_callB (id := "isinstance") (r := rIsi K) call_isi (by rfl) T.m_isinstance (by decide +kernel) (pa_cons (pv 0) (pa_cons (pe_bltn (v := .ty "list") (by rfl) T.m_list (by decide +kernel) rfl) pa_nil))))) (pw_or1 (pt_cmpR op_lt (pe_callB (id := "len") (r := rLen K) cr_len (by rfl) T.m_len PySem.boot_len (pa_cons (pv 0) pa_nil)) (pv 1) (nomark _)))))
      (pss_one (ps_ret pe_bl))
      pss_nil)
      (pss_one (ps_ret (pe_callB (id := "all") (r := rAll K) (cr_all rfl) (by rfl) T.m_all (by decide +kernel) (pa_cons (pe_lc (own := [("value", 2)]) (g := gName 2) (tt := tYes) rfl sc_are_bits.nd (pi_list (pv 0)) (blkOk_by (N := N_are_bits) (sc := defScope s_are_bits) (by decide +kernel)) (fun _ _ _ _ _ => (pg_name (i := 2) sc_are_bits.nd rfl (Or.inl rfl))) (fun _ _ _ _ _ => pts_nil) (fun _ _ _ _ _ => (pe_callB (id := "isinstance") (r := rIsi K) call_isi (by rfl) T.m_isinstance (by decide +kernel) (pa_cons (pv 2) (pa_cons (pe_bltn (v := .ty "bool") (by rfl) T.m_bool (by decide +kernel) rfl) pa_nil))))) pa_nil))))), ?_⟩
    walk_at "start"
    cases hv with
    | lst hd h hs =>
      rename_i a xs es
      have hlen := hs.len
      have hl := hl es rfl
      walk_at "x"
      walk_at "is"
      walk_at "f"
      refine x_len (sq_of h) ?_
      walk_at "x"
      refine x_ite (fun hc => ?_) (fun hc => ?_)
      · walk_at "x"
        have e : bitsD n (.list es) = false := by show (decide (n ≤ (es.length : Int)) && _) = false; rw [decide_eq_false (by omega)]; rfl
        rw [← e]
        exact q H (Same.refl _)
      · walk_at "x"
        refine x_lcB (xs := xs) (fun i => isBlD (es.getD i .none)) (J := Itl K a) (G := fun H => SqL K H a xs) (fun R r => ⟨_, rfl, a, rfl, ⟨xs, sq_of h⟩, r⟩) walk_list (by omega) (fun H' s => sq_of (s _ _ h)) (fun x => rfl) ?_ ?_
        · intro i x H' s hx R hR
          obtain ⟨f, hf, hxf⟩ := hs.get hx
          rw [getDD hf] at hR
          have hxf := DAt.same s f hxf
          walk_at "x"
          cases hxf with
          | int i =>
            walk_at "is"
            exact hR H' (Same.refl _)
          | bl b =>
            walk_at "is"
            exact hR H' (Same.refl _)
          | non =>
            walk_at "is"
            exact hR H' (Same.refl _)
          | str z =>
            walk_at "is"
            exact hR H' (Same.refl _)
          | tup h hs =>
            walk_at "is"
            exact hR H' (Same.refl _)
          | lst hd h hs =>
            walk_at "is"
            exact hR H' (Same.refl _)
        · intro p H' hp s hP
          walk_at "x"
          refine x_all hP ?_
          rw [hlen, range_allD (f := isBlD)]
          have e : bitsD n (.list es) = es.all isBlD := by show (decide (n ≤ (es.length : Int)) && _) = _; rw [decide_eq_true (by omega)]; rfl
          rw [← e]
          exact q H' s
    | int i =>
      walk_at "x"
      walk_at "is"
      walk_at "t"
      exact q H (Same.refl _)
    | bl b =>
      walk_at "x"
      walk_at "is"
      walk_at "t"
      exact q H (Same.refl _)
    | non =>
      walk_at "x"
      walk_at "is"
      walk_at "t"
      exact q H (Same.refl _)
    | str z =>
      walk_at "x"
      walk_at "is"
      walk_at "t"
      exact q H (Same.refl _)
    | tup h hs =>
      walk_at "x"
      walk_at "is"
      walk_at "t"
      exact q H (Same.refl _)






end
end Br
namespace Br
open PySem PySem.Spec PyProof.Rows L2
local macro_rules | `(tactic| walk_at "x1") => `(tactic| (with_reducible first
  | refine Br.x_seq ?_ | refine Br.x_set ?_ | refine Br.x_asg ?_ | refine Br.x_next ?_ | refine Br.x_ret ?_ | refine Br.x_retN ?_ | refine Br.x_drop ?_ | refine Br.x_if ?_ | refine Br.x_brk ?_ | refine Br.x_cont ?_
  | refine Br.x_c ?_ | refine Br.x_op ?_ | refine Br.x_un ?_ | refine Br.x_I0 ?_ | refine Br.x_U ?_ | refine Br.x_EqI ?_ | refine Br.x_NeI ?_ | refine Br.x_EqB ?_ | refine Br.x_iN ?_ | refine Br.x_int1 ?_ | refine Br.x_min2 ?_ | refine Br.x_max2 ?_ | refine Br.x_nN ?_ | refine Br.x_ifE ?_
  | refine Br.x_test (b := ()) ?_ | refine Br.x_tB ?_ | refine Br.x_bl ?_ | refine Br.x_and ?_ | refine Br.x_or ?_ | refine Br.x_not ?_ | refine Br.x_andV ?_ | refine Br.x_orV ?_ | refine Br.x_notV ?_ | refine Br.x_blP ?_
  | refine Br.x_nil ?_ | refine Br.x_cons ?_ | refine Br.x_call ?_ | refine Br.x_CB ?_ | refine Br.x_BM ?_ | refine Br.x_tup ?_ | refine Br.x_lst ?_ | refine Br.x_chain ?_ | refine Br.x_par ?_ | refine Br.x_gSub ?_ | refine Br.x_gName ?_ | refine Br.x_fld ?_ | refine Br.x_fldS ?_ | refine Br.x_match ?_ | refine Br.x_else ?_ | refine Br.x_noCase ?_))
local macro_rules | `(tactic| walk_at "xv") => `(tactic| ((with_reducible refine' Br.x_var ?hvar ?_); (case hvar => rfl)))
local macro_rules | `(tactic| walk_at "xd") => `(tactic| (dsimp only [List.set_cons_zero, List.set_cons_succ, List.cons_append, List.nil_append, List.append_nil]))
local macro_rules | `(tactic| walk_at "xi") => `(tactic| ((with_reducible refine Br.x_I ?hside ?_); (case hside => first | exact Br.mul_r (by decide) (by decide) | exact Br.mul_l (by decide) (by decide) | exact Br.mul_l (by omega) (by omega) | exact Br.mul_r (by omega) (by omega) | (show (0 : Int) < _; first | decide | omega) | exact ⟨by decide, by decide⟩ | exact ⟨by omega, by omega⟩ | exact ⟨by decide, by decide, by decide⟩)))
local macro_rules | `(tactic| walk_at "x") => `(tactic| (repeat (first | walk_at "x1" | walk_at "xv" | walk_at "xi" | walk_at "xd")))
local macro_rules | `(tactic| walk_at "start") => `(tactic| (simp only [L2.start, List.map_cons, List.map_nil, List.length_cons, List.length_nil, Nat.reduceAdd, Nat.reduceSub, List.replicate, List.cons_append, List.nil_append, List.append_nil]))
local macro_rules | `(tactic| walk_at "isi") => `(tactic| first
  | refine Br.x_isi (b := true) (.base (.int _)) (by decide +kernel) ?_ | refine Br.x_isi (b := false) (.base (.int _)) (by decide +kernel) ?_
  | refine Br.x_isi (b := true) (.base (.bl _)) (by decide +kernel) ?_ | refine Br.x_isi (b := false) (.base (.bl _)) (by decide +kernel) ?_
  | refine Br.x_isi (b := false) (.base .non) (by decide +kernel) ?_
  | refine Br.x_isi (b := true) (.base (.str _)) (by decide +kernel) ?_ | refine Br.x_isi (b := false) (.base (.str _)) (by decide +kernel) ?_
  | refine Br.x_isi (b := true) (.base (.tup (by assumption))) (by decide +kernel) ?_ | refine Br.x_isi (b := false) (.base (.tup (by assumption))) (by decide +kernel) ?_
  | refine Br.x_isi (b := true) (.base (.lst (by assumption))) (by decide +kernel) ?_ | refine Br.x_isi (b := false) (.base (.lst (by assumption))) (by decide +kernel) ?_)
local macro_rules | `(tactic| walk_at "f") => `(tactic| (refine L2.iteF ?_; walk_at "x"))
local macro_rules | `(tactic| walk_at "t") => `(tactic| (refine L2.iteT ?_; walk_at "x"))
local macro_rules | `(tactic| walk_at "is") => `(tactic| (walk_at "isi"; walk_at "x"))
local macro_rules | `(tactic| walk_at "xb") => `(tactic| (simp only [Br.bindS, List.set_cons_zero, List.set_cons_succ]; walk_at "x"))

section
variable {P : Program} {w : World} {K : PySem.W.Frag} {mg : Str → Option Value} {base : Heap}

open Br

theorem x_lenSet {K : PySem.W.Frag} {σ : L2.St} {H : Hp} {Q : VK} {ta : TE} (h : ta σ H fun x H1 => ∃ (l : Addr) (ns : List Int), x = V.ref l ∧ (SqL K H1 l (ns.map V.int) ∨ SqT K H1 l (ns.map V.int)) ∧ ns.length ≤ 4000 ∧ ∀ c : Nat, (c = ns.length ↔ ns.Nodup) → c ≤ ns.length → Q (.int (c : Nat)) H1) : tLenSet K ta σ H Q := h
/-- ints alone, as data -/
theorem DAts.intsOf {d : Addr} {H : Hp} : ∀ {xs : List V} {es : List PyData}, DAts d H xs es → (∀ e, e ∈ es → ∃ i : Int, e = .int i) → xs = (es.map intD).map V.int
  | [], _, h, _ => by cases h; rfl
  | v :: xs, _, h, hf => by
    cases h with
    | cons h hs =>
      rename_i e es
      obtain ⟨i, rfl⟩ := hf e List.mem_cons_self
      cases h
      rw [DAts.intsOf hs fun e he => hf e (List.mem_cons_of_mem _ he)]
      rfl
def sp_is_permutation (K : PySem.W.Frag) : Sp := fun vs H Q _ => ∃ (d : Addr) (v : V) (e : PyData), vs = [v] ∧ DAt d H v e ∧ ∀ H', Same H H' → Q (.bl (permD e)) H'
theorem ok_is_permutation (T : Txt K mg) : FnOk P w K mg base CX0 2 T.a_is_permutation T.fd_is_permutation ["value"] (sp_is_permutation K) := by
  refine T.F_is_permutation.ok sc_is_permutation (fun vs H Q E h => ?_) (fun cdv A outer s H vs Q E hr h => ?_)
  · obtain ⟨d, v, e, rfl, _⟩ := h
    rfl
  · obtain ⟨d, v, e, rfl, hv, q⟩ := h
    refine ⟨_, (pss_cons (ps_if (PW.pt (pw_or (pt_not (pt_val (pe_callB (id := "isinstance") (r := rIsi K) call_isi (by rfl) T.m_isinstance (by decide +kernel) (pa_cons (pv 0) (pa_cons (pe_bltn (v := .ty "tuple") (by rfl) T.m_tuple (by decide +kernel) rfl) pa_nil))))) (pw_or1 (pt_cmpR op_ne (pe_callB (id := "len") (r := rLen K) cr_len (by rfl) T.m_len PySem.boot_len (pa_cons (pv 0) pa_nil)) (pe_glob (v := .int 5) (by rfl) T.c_POINTS ⟨_, rfl⟩) (nomark _)))))
      (pss_one (ps_ret pe_bl))
      pss_nil)
      (pss_cons (ps_if (pt_not (pt_val (pe_callB (id := "all") (r := rAll K) (cr_all rfl) (by rfl) T.m_all (by decide +kernel) (pa_cons (pe_lc (own := [("point", 1)]) (g := gName 1) (tt := tYes) rfl sc_is_permutation.nd (pi_tup (pv 0)) (blkOk_by (N := N_is_permutation) (sc := defScope s_is_permutation) (by decide +kernel)) (fun _ _ _ _ _ => (pg_name (i := 1) sc_is_permutation.nd rfl (Or.inl rfl))) (fun _ _ _ _ _ => pts_nil) (fun _ _ _ _ _ => (pe_call (ok_is_below T) hr (by rfl) T.g_is_below T.F_is_below.kp T.b_is_below .nil pass0 (pa_cons (pv 1) (pa_cons (pe_glob (v := .int 5) (by rfl) T.c_POINTS ⟨_, rfl⟩) pa_nil))))) pa_nil))))
      (pss_one (ps_ret pe_bl))
      pss_nil)
      (pss_one (ps_ret (pe_cmpR op_eq (pe_lenSetA (by rfl) T.m_len (by rfl) T.m_set (pv 0)) (pe_glob (v := .int 5) (by rfl) T.c_POINTS ⟨_, rfl⟩) (nomark _)))))), ?_⟩
    walk_at "start"
    cases hv with
    | tup h hs =>
      rename_i a xs es
      have hlen := hs.len
      walk_at "x"
      walk_at "is"
      walk_at "f"
      refine x_lenT (st_of h) ?_
      walk_at "x"
      have ep : permD (.tuple es) = (decide (es.length = 5) && (es.all (isBD 5) && decide (es.map intD).Nodup)) := rfl
      refine x_iteN (fun hc => ?_) (fun hc => ?_)
      · walk_at "x"
        have e : permD (.tuple es) = false := by rw [ep, decide_eq_false (by omega)]; rfl
        rw [← e]
        exact q H (Same.refl _)
      · walk_at "x"
        have hl5 : es.length = 5 := by omega
        refine x_lcB (xs := xs) (fun i => isBD 5 (es.getD i .none)) (J := Itt K a) (G := fun H => SqT K H a xs) (fun R r => ⟨_, rfl, a, rfl, ⟨xs, st_of h⟩, r⟩) walk_tup (by omega) (fun H' s => st_of (s _ _ h)) (fun x => rfl) ?_ ?_
        · intro i x H' s hx R hR
          obtain ⟨f, hf, hxf⟩ := hs.get hx
          rw [getDD hf] at hR
          have hxf := DAt.same s f hxf
          walk_at "x"
          refine ⟨x, _, rfl, hxf.odd, ?_⟩
          rw [hxf.isB]
          exact hR H' (Same.refl _)
        · intro p H' hp s hP
          walk_at "x"
          refine x_all hP ?_
          rw [hlen, range_allD (f := isBD 5)]
          walk_at "x"
          refine x_iteBN (fun hb => ?_) (fun hb => ?_)
          · walk_at "x"
            have e : permD (.tuple es) = false := by rw [ep, hb, Bool.false_and, Bool.and_false]
            rw [← e]
            exact q H' s
          · walk_at "x"
            have hall : ∀ e, e ∈ es → ∃ i : Int, e = .int i := fun e he => by
              obtain ⟨i, hi, _⟩ := isBD_iff.mp (List.all_eq_true.mp hb e he)
              exact ⟨i, hi⟩
            have hxi := hs.intsOf hall
            refine x_lenSet ?_
            walk_at "x"
            refine ⟨a, es.map intD, rfl, .inr (hxi ▸ st_of (s _ _ h)), by rw [List.length_map]; omega, fun c hc1 hc2 => ?_⟩
            rw [List.length_map, hl5] at hc1
            walk_at "x"
            have e : permD (.tuple es) = decide ((c : Int) = 5) := by
              rw [ep, hb, decide_eq_true hl5, Bool.true_and, Bool.true_and]
              exact decide_eq_decide.mpr (hc1.symm.trans ⟨fun z => by omega, fun z => by omega⟩)
            rw [← e]
            exact q H' s
    | int i =>
      walk_at "x"
      walk_at "is"
      walk_at "t"
      exact q H (Same.refl _)
    | bl b =>
      walk_at "x"
      walk_at "is"
      walk_at "t"
      exact q H (Same.refl _)
    | non =>
      walk_at "x"
      walk_at "is"
      walk_at "t"
      exact q H (Same.refl _)
    | str z =>
      walk_at "x"
      walk_at "is"
      walk_at "t"
      exact q H (Same.refl _)
    | lst hd h hs =>
      walk_at "x"
      walk_at "is"
      walk_at "t"
      exact q H (Same.refl _)


def sp_is_input (K : PySem.W.Frag) : Sp := fun vs H Q _ => ∃ (d : Addr) (v : V) (e : PyData), vs = [v] ∧ DAt d H v e ∧ Q (.bl (isBD 60 e)) H
theorem ok_is_input (T : Txt K mg) : FnOk P w K mg base CX0 2 T.a_is_input T.fd_is_input ["k"] (sp_is_input K) := by
  refine T.F_is_input.ok sc_is_input (fun vs H Q E h => ?_) (fun cdv A outer s H vs Q E hr h => ?_)
  · obtain ⟨d, v, e, rfl, _⟩ := h
    rfl
  · obtain ⟨d, v, e, rfl, hv, q⟩ := h
    refine ⟨_, (pss_one (ps_ret (pe_call (ok_is_below T) hr (by rfl) T.g_is_below T.F_is_below.kp T.b_is_below .nil pass0 (pa_cons (pv 0) (pa_cons (pe_glob (v := .int 60) (by rfl) T.c_MOST_INPUTS ⟨_, rfl⟩) pa_nil))))), ?_⟩
    walk_at "start"
    walk_at "x"
    refine ⟨v, _, rfl, hv.odd, ?_⟩
    rw [hv.isB]
    exact q


def sp_is_triple (K : PySem.W.Frag) : Sp := fun vs H Q _ => ∃ (d : Addr) (v : V) (e : PyData), vs = [v] ∧ DAt d H v e ∧ ∀ H', Same H H' → Q (.bl (tripD e)) H'
theorem tripD_3 {k z o : PyData} : tripD (.tuple [k, z, o]) = (isBD 60 k && (permD z && permD o)) := rfl
theorem ok_is_triple (T : Txt K mg) : FnOk P w K mg base CX0 3 T.a_is_triple T.fd_is_triple ["triple"] (sp_is_triple K) := by
  refine T.F_is_triple.ok sc_is_triple (fun vs H Q E h => ?_) (fun cdv A outer s H vs Q E hr h => ?_)
  · obtain ⟨d, v, e, rfl, _⟩ := h
    rfl
  · obtain ⟨d, v, e, rfl, hv, q⟩ := h
    refine ⟨_, (pss_cons (ps_if (PW.pt (pw_or (pt_not (pt_val (pe_callB (id := "isinstance") (r := rIsi K) call_isi (by rfl) T.m_isinstance (by decide +kernel) (pa_cons (pv 0) (pa_cons (pe_bltn (v := .ty "tuple") (by rfl) T.m_tuple (by decide +kernel) rfl) pa_nil))))) (pw_or1 (pt_cmpR op_ne (pe_callB (id := "len") (r := rLen K) cr_len (by rfl) T.m_len PySem.boot_len (pa_cons (pv 0) pa_nil)) pe_int (nomark _)))))
      (pss_one (ps_ret pe_bl))
      pss_nil)
      (pss_cons (ps_asg (pv 0) (pg_tup rfl (pgs_cons (pg_name (i := 1) sc_is_triple.nd rfl (Or.inl rfl)) (pgs_cons (pg_name (i := 2) sc_is_triple.nd rfl (Or.inl rfl)) (pgs_cons (pg_name (i := 3) sc_is_triple.nd rfl (Or.inl rfl)) pgs_nil)))))
      (pss_one (ps_ret (pe_and (pe_call (ok_is_input T) hr (by rfl) T.g_is_input T.F_is_input.kp T.b_is_input .nil pass0 (pa_cons (pv 1) pa_nil)) (pe_and (pe_call (ok_is_permutation T) hr (by rfl) T.g_is_permutation T.F_is_permutation.kp T.b_is_permutation .nil pass0 (pa_cons (pv 2) pa_nil)) (pe_one (pe_call (ok_is_permutation T) hr (by rfl) T.g_is_permutation T.F_is_permutation.kp T.b_is_permutation .nil pass0 (pa_cons (pv 3) pa_nil))))))))), ?_⟩
    walk_at "start"
    cases hv with
    | tup h hs =>
      rename_i a xs es
      have hlen := hs.len
      walk_at "x"
      walk_at "is"
      walk_at "f"
      refine x_lenT (st_of h) ?_
      walk_at "x"
      refine x_iteN (fun hc => ?_) (fun hc => ?_)
      · walk_at "x"
        have e : tripD (.tuple es) = false := by
          match es, hlen with
          | [], _ => rfl
          | [_], _ => rfl
          | [_, _], _ => rfl
          | [_, _, _], hl => exfalso; apply hc; rw [hl]; rfl
          | _ :: _ :: _ :: _ :: _, _ => rfl
        rw [← e]
        exact q H (Same.refl _)
      · obtain ⟨x, y, z, rfl⟩ : ∃ x y z, xs = [x, y, z] := by
          match xs, hc with
          | [x, y, z], _ => exact ⟨x, y, z, rfl⟩
          | [], hc => simp at hc
          | [_], hc => simp at hc
          | [_, _], hc => simp at hc
          | _ :: _ :: _ :: _ :: _, hc => simp at hc; omega
        cases hs with
        | cons hx hs =>
          cases hs with
          | cons hy hs =>
            cases hs with
            | cons hz hs =>
              cases hs
              rename_i ex ey ez
              rw [tripD_3] at q
              walk_at "x"
              refine x_gTup3 (st_of h) ?_
              walk_at "x"
              refine ⟨d, x, ex, rfl, hx, ?_⟩
              refine x_blP ?_
              refine x_iteB (fun hb => ?_) (fun hb => ?_)
              · rw [hb, Bool.true_and] at q
                walk_at "x"
                refine ⟨d, y, ey, rfl, hy, fun H1 s1 => ?_⟩
                refine x_blP ?_
                refine x_iteB (fun hb2 => ?_) (fun hb2 => ?_)
                · rw [hb2, Bool.true_and] at q
                  walk_at "x"
                  exact ⟨d, z, ez, rfl, DAt.same s1 _ hz, fun H2 s2 => q H2 (s1.trans s2)⟩
                · rw [hb2, Bool.false_and] at q
                  exact q H1 s1
              · rw [hb, Bool.false_and] at q
                exact q H (Same.refl _)
    | int i =>
      walk_at "x"
      walk_at "is"
      walk_at "t"
      exact q H (Same.refl _)
    | bl b =>
      walk_at "x"
      walk_at "is"
      walk_at "t"
      exact q H (Same.refl _)
    | non =>
      walk_at "x"
      walk_at "is"
      walk_at "t"
      exact q H (Same.refl _)
    | str z =>
      walk_at "x"
      walk_at "is"
      walk_at "t"
      exact q H (Same.refl _)
    | lst hd h hs =>
      walk_at "x"
      walk_at "is"
      walk_at "t"
      exact q H (Same.refl _)


def sp_is_word (K : PySem.W.Frag) : Sp := fun vs H Q _ => ∃ (d : Addr) (v : V) (e : PyData), vs = [v] ∧ DAt d H v e ∧ ∀ H', Same H H' → Q (.bl (wordD e)) H'
theorem ok_is_word (T : Txt K mg) : FnOk P w K mg base CX0 4 T.a_is_word T.fd_is_word ["word"] (sp_is_word K) := by
  refine T.F_is_word.ok sc_is_word (fun vs H Q E h => ?_) (fun cdv A outer s H vs Q E hr h => ?_)
  · obtain ⟨d, v, e, rfl, _⟩ := h
    rfl
  · obtain ⟨d, v, e, rfl, hv, q⟩ := h
    refine ⟨_, (pss_cons (ps_if (PW.pt (pw_or (pt_not (pt_val (pe_callB (id := "isinstance") (r := rIsi K) call_isi (by rfl) T.m_isinstance (by decide +kernel) (pa_cons (pv 0) (pa_cons (pe_bltn (v := .ty "list") (by rfl) T.m_list (by decide +kernel) rfl) pa_nil))))) (pw_or1 (pt_cmpR op_gt (pe_callB (id := "len") (r := rLen K) cr_len (by rfl) T.m_len PySem.boot_len (pa_cons (pv 0) pa_nil)) (pe_glob (v := .int 20000) (by rfl) T.c_MOST_TRIPLES ⟨_, rfl⟩) (nomark _)))))
      (pss_one (ps_ret pe_bl))
      pss_nil)
      (pss_one (ps_ret (pe_callB (id := "all") (r := rAll K) (cr_all rfl) (by rfl) T.m_all (by decide +kernel) (pa_cons (pe_lc (own := [("triple", 1)]) (g := gName 1) (tt := tYes) rfl sc_is_word.nd (pi_list (pv 0)) (blkOk_by (N := N_is_word) (sc := defScope s_is_word) (by decide +kernel)) (fun _ _ _ _ _ => (pg_name (i := 1) sc_is_word.nd rfl (Or.inl rfl))) (fun _ _ _ _ _ => pts_nil) (fun _ _ _ _ _ => (pe_call (ok_is_triple T) hr (by rfl) T.g_is_triple T.F_is_triple.kp T.b_is_triple .nil pass0 (pa_cons (pv 1) pa_nil)))) pa_nil))))), ?_⟩
    walk_at "start"
    cases hv with
    | lst hd h hs =>
      rename_i a xs es
      have hlen := hs.len
      walk_at "x"
      walk_at "is"
      walk_at "f"
      refine x_len (sq_of h) ?_
      walk_at "x"
      refine x_ite (fun hc => ?_) (fun hc => ?_)
      · walk_at "x"
        have e : wordD (.list es) = false := by show (decide (es.length ≤ 20000) && _) = false; rw [decide_eq_false (by omega)]; rfl
        rw [← e]
        exact q H (Same.refl _)
      · walk_at "x"
        refine x_lcB (xs := xs) (fun i => tripD (es.getD i .none)) (J := Itl K a) (G := fun H => SqL K H a xs) (fun R r => ⟨_, rfl, a, rfl, ⟨xs, sq_of h⟩, r⟩) walk_list (by omega) (fun H' s => sq_of (s _ _ h)) (fun x => rfl) ?_ ?_
        · intro i x H' s hx R hR
          obtain ⟨f, hf, hxf⟩ := hs.get hx
          rw [getDD hf] at hR
          walk_at "x"
          exact ⟨d, x, f, rfl, DAt.same s f hxf, hR⟩
        · intro p H' hp s hP
          walk_at "x"
          refine x_all hP ?_
          rw [hlen, range_allD (f := tripD)]
          have e : wordD (.list es) = es.all tripD := by show (decide (es.length ≤ 20000) && _) = _; rw [decide_eq_true (by omega)]; rfl
          rw [← e]
          exact q H' s
    | int i =>
      walk_at "x"
      walk_at "is"
      walk_at "t"
      exact q H (Same.refl _)
    | bl b =>
      walk_at "x"
      walk_at "is"
      walk_at "t"
      exact q H (Same.refl _)
    | non =>
      walk_at "x"
      walk_at "is"
      walk_at "t"
      exact q H (Same.refl _)
    | str z =>
      walk_at "x"
      walk_at "is"
      walk_at "t"
      exact q H (Same.refl _)
    | tup h hs =>
      walk_at "x"
      walk_at "is"
      walk_at "t"
      exact q H (Same.refl _)


theorem DAts.trips {d : Addr} {H : Hp} {xs : List V} {ws : List Tr} (h : DAts d H xs (ws.map trD)) : ∃ as : List Addr, xs = as.map V.ref ∧ as.length = ws.length ∧ ∀ (i : Nat) t b, ws[i]? = some t → as[i]? = some b → TrAt H b t := by
  induction ws generalizing xs with
  | nil =>
    cases h
    exact ⟨[], rfl, rfl, fun i t b h _ => by simp at h⟩
  | cons w ws ih =>
    cases h with
    | cons h hs =>
      obtain ⟨a, rfl, ha⟩ := trD_at h
      obtain ⟨as, rfl, hl, hat⟩ := ih hs
      refine ⟨a :: as, rfl, congrArg (· + 1) hl, fun i t b h1 h2 => ?_⟩
      cases i with
      | zero => cases h1; cases h2; exact ha
      | succ i => exact hat i t b (by simpa using h1) (by simpa using h2)
def sp_effect (CW CM : Addr) (K : PySem.W.Frag) : Sp := fun vs H Q E => ∃ (d : Addr) (wv bv qv : V) (we be qe : PyData), vs = [wv, bv, qv] ∧ DAt d H wv we ∧ DAt d H bv be ∧ DAt d H qv qe ∧ (∀ es, be = .list es → es.length ≤ 100000) ∧
  ((wordD we && isBD 5 qe) = false → ∀ H', Same H H' → E (.ref CW) none H') ∧
  (∀ ws : List Tr, we = .list (ws.map trD) → (wordD we && isBD 5 qe) = true →
    (bitsD (needW ws : Nat) be = false → ∀ H', Same H H' → E (.ref CM) none H') ∧
    (∀ (bs : List Bool) (p : Nat), be = blsD bs → qe = .int (p : Int) → needW ws ≤ bs.length → p < 5 → ∀ H', Same H H' → Q (.int (effF ws bs p : Nat)) H'))
theorem ok_effect (T : Txt K mg) : FnOk P w K mg base (L2.CX P w) 5 T.a_effect T.fd_effect ["word", "bits", "point"] (sp_effect T.E_BadWord T.E_BadMemory K) := by
  refine T.F_effect.okX sc_effect (fun vs H Q E h => ?_) (fun cdv A outer s H vs Q E hr h => ?_)
  · obtain ⟨d, wv, bv, qv, we, be, qe, rfl, _⟩ := h
    rfl
  · obtain ⟨d, wv, bv, qv, we, be, qe, rfl, hw, hb, hp, hbl, hE, hQ⟩ := h
    refine ⟨_, (pss_cons (ps_if (pt_not (pt_val (pe_call (ok_is_word T) hr (by rfl) T.g_is_word T.F_is_word.kp T.b_is_word .nil pass0 (pa_cons (pv 0) pa_nil))))
      (pss_one (ps_raise rfl (takes_of rfl rfl rfl rfl) (pmk_own PySem.F.excBase_ValueError T.xE_BadWord T.gE_BadWord T.kE_BadWord (raises_own T.bE_BadWord T.tE_BadWord) (by exact rfl))))
      pss_nil)
      (pss_cons (ps_if (pt_not (pt_val (pe_call (ok_is_below T) (hr.mono (by decide)) (by rfl) T.g_is_below T.F_is_below.kp T.b_is_below .nil pass0 (pa_cons (pv 2) (pa_cons (pe_glob (v := .int 5) (by rfl) T.c_POINTS ⟨_, rfl⟩) pa_nil)))))
      (pss_one (ps_raise rfl (takes_of rfl rfl rfl rfl) (pmk_own PySem.F.excBase_ValueError T.xE_BadWord T.gE_BadWord T.kE_BadWord (raises_own T.bE_BadWord T.tE_BadWord) (by exact rfl))))
      pss_nil)
      (pss_cons (ps_if (pt_not (pt_val (pe_call (ok_are_bits T) (hr.mono (by decide)) (by rfl) T.g_are_bits T.F_are_bits.kp T.b_are_bits .nil pass0 (pa_cons (pv 1) (pa_cons (pe_callBK (cr_maxDf rfl) (by rfl) T.m_max (by decide +kernel) (pa_cons (pe_lc (own := [("triple", 6)]) (g := gName 6) (tt := tYes) rfl sc_effect.nd (pi_list (pv 0)) (blkOk_by (N := N_effect) (sc := defScope s_effect) (by decide +kernel)) (fun _ _ _ _ _ => (pg_name (i := 6) sc_effect.nd rfl (Or.inl rfl))) (fun _ _ _ _ _ => pts_nil) (fun _ _ _ _ _ => (pe_op op_add (pe_ix (r := rIxT K) ix_tup (pv 6) pe_int (fun _ _ => rfl)) pe_int))) pa_nil) (pk_cons pe_int pk_nil)) pa_nil)))))
      (pss_one (ps_raise rfl (takes_of rfl rfl rfl rfl) (pmk_own PySem.F.excBase_ValueError T.xE_BadMemory T.gE_BadMemory T.kE_BadMemory (raises_own T.bE_BadMemory T.tE_BadMemory) (by exact rfl))))
      pss_nil)
      (PSs.nox (pss_cons (ps_for PassesOwn.never rfl (pi_list (pv 0)) (pg_tup rfl (pgs_cons (pg_name (i := 3) sc_effect.nd rfl (Or.inl rfl)) (pgs_cons (pg_name (i := 4) sc_effect.nd rfl (Or.inl rfl)) (pgs_cons (pg_name (i := 5) sc_effect.nd rfl (Or.inl rfl)) pgs_nil))))
      (pss_one (ps_set (i := 2) sc_effect.nd rfl (.inl rfl) (pe_ifExp (pt_val (pe_ix (r := rIxL K) ix_list (pv 1) (pv 3) (fun _ _ => rfl))) (pe_ix (r := rIxT K) ix_tup (pv 5) (pv 2) (fun _ _ => rfl)) (pe_ix (r := rIxT K) ix_tup (pv 4) (pv 2) (fun _ _ => rfl))))))
      (pss_one (ps_ret (pv 2)))))))), ?_⟩
    walk_at "start"
    walk_at "x"
    refine ⟨d, wv, we, rfl, hw, fun H1 s1 => ?_⟩
    walk_at "x"
    refine x_iteBN (fun h0 => ?_) (fun h0 => ?_)
    · exact hE (by rw [h0]; rfl) H1 s1
    walk_at "x"
    refine ⟨qv, _, rfl, (DAt.same s1 _ hp).odd, ?_⟩
    rw [(DAt.same s1 _ hp).isB]
    walk_at "x"
    refine x_iteBN (fun h1 => ?_) (fun h1 => ?_)
    · exact hE (by rw [h0, h1]; rfl) H1 s1
    obtain ⟨ws, rfl, hl, hok⟩ := wordD_iff.mp h0
    obtain ⟨hM, hQ⟩ := hQ ws rfl (by rw [h0, h1]; rfl)
    obtain ⟨p0, rfl, p0n, p5⟩ := isBD_iff.mp h1
    cases hp
    cases hw with
    | lst hwd hwa hws =>
      rename_i wa wxs
      obtain ⟨as, rfl, hal, hat⟩ := hws.trips
      have hlm : (as.map V.ref).length = ws.length := by rw [List.length_map, hal]
      walk_at "x"
      refine x_maxDf ?_
      walk_at "x"
      refine x_lcV (xs := as.map V.ref) (fun i => .int (((ws.getD i (0, [], [])).1 : Int) + 1)) (J := Itl K wa) (G := fun H => SqL K H wa (as.map V.ref)) (fun R r => ⟨_, rfl, wa, rfl, ⟨_, sq_of (s1 _ _ hwa)⟩, r⟩) walk_list (by omega) (fun H' s => sq_of (s _ _ (s1 _ _ hwa))) (fun x => rfl) ?_ ?_
      · intro i x H' s hx R hR
        obtain ⟨a, ha, rfl⟩ := map_getR hx
        have hi := (List.getElem?_eq_some_iff.mp ha).1
        have hwi : ws[i]? = some ws[i] := List.getElem?_eq_getElem (by omega)
        obtain ⟨z, o, h1, h2, h3⟩ := hat i _ a hwi ha
        rw [getDT hwi] at hR
        walk_at "x"
        refine x_ixT (v := .int (ws[i].1 : Int)) (st_of (s _ _ (s1 _ _ h1))) (atI_nat (j := 0) rfl) ?_
        walk_at "x"
        exact hR H' (Same.refl _)
      · intro p H2 hp s2 hP
        rw [hlm, range_map (f := fun t : Tr => V.int ((t.1 : Int) + 1))] at hP
        have e : (ws.map fun t : Tr => V.int ((t.1 : Int) + 1)) = (ws.map fun t => ((t.1 : Int) + 1)).map V.int := by rw [List.map_map]; rfl
        rw [e] at hP
        have s2 := s1.trans s2
        walk_at "x"
        refine x_maxDfP (sq_of hP) fun m hm => ?_
        have hm : m = ((needW ws : Nat) : Int) := needW_max (hm.elim (fun h => .inl ⟨List.map_eq_nil_iff.mp h.1, h.2⟩) .inr)
        subst hm
        walk_at "x"
        refine ⟨d, bv, be, _, rfl, DAt.same s2 _ hb, hbl, fun H3 s3 => ?_⟩
        have s3 := s2.trans s3
        walk_at "x"
        refine x_iteBN (fun h2 => ?_) (fun h2 => ?_)
        · exact hM h2 H3 s3
        obtain ⟨bs, rfl, hbn⟩ := bitsD_iff.mp h2
        obtain ⟨ba, rfl, hba⟩ := blsD_at hb
        obtain ⟨p0, rfl⟩ : ∃ k : Nat, p0 = (k : Int) := ⟨p0.toNat, by omega⟩
        have hQ := hQ bs p0 rfl rfl (by omega) (by omega)
        walk_at "x"
        refine x_forL (p := wa) (as.map V.ref) (fun k σ' H' => ∃ v3 v4 v5 v6, σ' = [some (.ref wa), some (.ref ba), some (.int ((effF (ws.take k) bs p0 : Nat) : Int)), v3, v4, v5, v6] ∧ H3 = H') (fun R r => by walk_at "x"; exact r) (sq_of (s3 _ _ hwa)) ⟨_, _, _, _, rfl, rfl⟩ (fun k σ' H' _ z => by obtain ⟨_, _, _, _, _, rfl⟩ := z; exact sq_of (s3 _ _ hwa)) ?_ ?_
        · rintro k x σ' H4 hx ⟨v3, v4, v5, v6, rfl, rfl⟩
          obtain ⟨a, ha, rfl⟩ := map_getR hx
          have hi := (List.getElem?_eq_some_iff.mp ha).1
          have hwi : ws[k]? = some ws[k] := List.getElem?_eq_getElem (by omega)
          obtain ⟨z, o, h1, h2, h3⟩ := hat k _ a hwi ha
          have okt := hok _ (List.getElem_mem (by omega : k < ws.length))
          have hn := needW_le (List.getElem_mem (by omega : k < ws.length))
          generalize hT : ws[k] = t at hwi h1 h2 h3 okt hn
          have hp5 : effF (ws.take k) bs p0 < 5 := effF_lt (fun t ht => hok t (List.mem_of_mem_take ht)) (by omega)
          have hst : effF (ws.take (k + 1)) bs p0 = stepW bs (effF (ws.take k) bs p0) t := by rw [take_snocG hwi, effF_snoc]
          refine x_gTup3 (st_of (s3 _ _ h1)) ?_
          walk_at "x"
          refine x_ixL (sq_of (s3 _ _ hba)) (atI_nat (bls_get (by omega))) ?_
          walk_at "x"
          refine x_iteB (fun hb => ?_) (fun hb => ?_)
          · walk_at "x"
            obtain ⟨g1, g2⟩ := pm_get okt.2.2 hp5
            refine x_ixT (v := .int ((t.2.2.getD (effF (ws.take k) bs p0) 0 : Nat) : Int)) (st_of (s3 _ _ h3)) (atI_nat (by unfold cInts; rw [List.getElem?_map, g1]; rfl)) ?_
            have : stepW bs (effF (ws.take k) bs p0) t = t.2.2.getD (effF (ws.take k) bs p0) 0 := by unfold stepW; rw [if_pos hb]
            rw [← this, ← hst]
            walk_at "x"
            exact ⟨_, _, _, _, rfl, rfl⟩
          · walk_at "x"
            obtain ⟨g1, g2⟩ := pm_get okt.2.1 hp5
            refine x_ixT (v := .int ((t.2.1.getD (effF (ws.take k) bs p0) 0 : Nat) : Int)) (st_of (s3 _ _ h2)) (atI_nat (by unfold cInts; rw [List.getElem?_map, g1]; rfl)) ?_
            have : stepW bs (effF (ws.take k) bs p0) t = t.2.1.getD (effF (ws.take k) bs p0) 0 := by unfold stepW; rw [if_neg (by rw [hb]; decide)]
            rw [← this, ← hst]
            walk_at "x"
            exact ⟨_, _, _, _, rfl, rfl⟩
        · rintro σ' H4 ⟨v3, v4, v5, v6, rfl, rfl⟩
          walk_at "x"
          rw [hlm, List.take_length]
          exact hQ H3 s3


end
end Br
namespace Br
open PySem PySem.Spec PyProof.Rows L2
local macro_rules | `(tactic| walk_at "x1") => `(tactic| (with_reducible first
  | refine Br.x_seq ?_ | refine Br.x_set ?_ | refine Br.x_asg ?_ | refine Br.x_next ?_ | refine Br.x_ret ?_ | refine Br.x_retN ?_ | refine Br.x_drop ?_ | refine Br.x_if ?_ | refine Br.x_brk ?_ | refine Br.x_cont ?_
  | refine Br.x_c ?_ | refine Br.x_op ?_ | refine Br.x_un ?_ | refine Br.x_I0 ?_ | refine Br.x_U ?_ | refine Br.x_EqI ?_ | refine Br.x_NeI ?_ | refine Br.x_EqB ?_ | refine Br.x_iN ?_ | refine Br.x_int1 ?_ | refine Br.x_min2 ?_ | refine Br.x_max2 ?_ | refine Br.x_nN ?_ | refine Br.x_ifE ?_
  | refine Br.x_test (b := ()) ?_ | refine Br.x_tB ?_ | refine Br.x_bl ?_ | refine Br.x_and ?_ | refine Br.x_or ?_ | refine Br.x_not ?_ | refine Br.x_andV ?_ | refine Br.x_orV ?_ | refine Br.x_notV ?_ | refine Br.x_blP ?_
  | refine Br.x_nil ?_ | refine Br.x_cons ?_ | refine Br.x_call ?_ | refine Br.x_CB ?_ | refine Br.x_BM ?_ | refine Br.x_tup ?_ | refine Br.x_lst ?_ | refine Br.x_chain ?_ | refine Br.x_par ?_ | refine Br.x_gSub ?_ | refine Br.x_gName ?_ | refine Br.x_fld ?_ | refine Br.x_fldS ?_ | refine Br.x_match ?_ | refine Br.x_else ?_ | refine Br.x_noCase ?_))
local macro_rules | `(tactic| walk_at "xv") => `(tactic| ((with_reducible refine' Br.x_var ?hvar ?_); (case hvar => rfl)))
local macro_rules | `(tactic| walk_at "xd") => `(tactic| (dsimp only [List.set_cons_zero, List.set_cons_succ, List.cons_append, List.nil_append, List.append_nil]))
local macro_rules | `(tactic| walk_at "xi") => `(tactic| ((with_reducible refine Br.x_I ?hside ?_); (case hside => first | exact Br.mul_r (by decide) (by decide) | exact Br.mul_l (by decide) (by decide) | exact Br.mul_l (by omega) (by omega) | exact Br.mul_r (by omega) (by omega) | (show (0 : Int) < _; first | decide | omega) | exact ⟨by decide, by decide⟩ | exact ⟨by omega, by omega⟩ | exact ⟨by decide, by decide, by decide⟩)))
local macro_rules | `(tactic| walk_at "x") => `(tactic| (repeat (first | walk_at "x1" | walk_at "xv" | walk_at "xi" | walk_at "xd")))
local macro_rules | `(tactic| walk_at "start") => `(tactic| (simp only [L2.start, List.map_cons, List.map_nil, List.length_cons, List.length_nil, Nat.reduceAdd, Nat.reduceSub, List.replicate, List.cons_append, List.nil_append, List.append_nil]))
local macro_rules | `(tactic| walk_at "isi") => `(tactic| first
  | refine Br.x_isi (b := true) (.base (.int _)) (by decide +kernel) ?_ | refine Br.x_isi (b := false) (.base (.int _)) (by decide +kernel) ?_
  | refine Br.x_isi (b := true) (.base (.bl _)) (by decide +kernel) ?_ | refine Br.x_isi (b := false) (.base (.bl _)) (by decide +kernel) ?_
  | refine Br.x_isi (b := false) (.base .non) (by decide +kernel) ?_
  | refine Br.x_isi (b := true) (.base (.str _)) (by decide +kernel) ?_ | refine Br.x_isi (b := false) (.base (.str _)) (by decide +kernel) ?_
  | refine Br.x_isi (b := true) (.base (.tup (by assumption))) (by decide +kernel) ?_ | refine Br.x_isi (b := false) (.base (.tup (by assumption))) (by decide +kernel) ?_
  | refine Br.x_isi (b := true) (.base (.lst (by assumption))) (by decide +kernel) ?_ | refine Br.x_isi (b := false) (.base (.lst (by assumption))) (by decide +kernel) ?_)
local macro_rules | `(tactic| walk_at "f") => `(tactic| (refine L2.iteF ?_; walk_at "x"))
local macro_rules | `(tactic| walk_at "t") => `(tactic| (refine L2.iteT ?_; walk_at "x"))
local macro_rules | `(tactic| walk_at "is") => `(tactic| (walk_at "isi"; walk_at "x"))
local macro_rules | `(tactic| walk_at "xb") => `(tactic| (simp only [Br.bindS, List.set_cons_zero, List.set_cons_succ]; walk_at "x"))

section
variable {P : Program} {w : World} {K : PySem.W.Frag} {mg : Str → Option Value} {base : Heap}

open Br

def sp_law_permutation (K : PySem.W.Frag) : Sp := fun vs H Q _ => ∃ (d n : Addr), vs = [.ref d] ∧ Dr H d n ∧ RetG d n (fun v H' => ∃ (a : Addr) (p : List Nat), v = .ref a ∧ H' a = some (.tup (cInts p)) ∧ PmOk p) H Q
theorem cInts_take {cs : List Nat} {k : Nat} : (cInts cs).take k = cInts (cs.take k) := by unfold cInts; rw [List.map_take]
theorem cInts_drop {cs : List Nat} {k : Nat} : (cInts cs).drop k = cInts (cs.drop k) := by unfold cInts; rw [List.map_drop]
theorem cInts_app {as bs : List Nat} : cInts as ++ cInts bs = cInts (as ++ bs) := by unfold cInts; rw [List.map_append]
theorem split_at {cs : List Nat} {k : Nat} (h : k < cs.length) : cs = cs.take k ++ cs[k] :: cs.drop (k + 1) := by
  rw [← List.drop_eq_getElem_cons h, List.take_append_drop]
theorem ok_law_permutation (T : Txt K mg) : FnOk P w K mg base CX0 3 T.a_law_permutation T.fd_law_permutation ["draws"] (sp_law_permutation K) := by
  refine T.F_law_permutation.ok sc_law_permutation (fun vs H Q E h => ?_) (fun cdv A outer s H vs Q E hr h => ?_)
  · obtain ⟨d, n, rfl, _⟩ := h
    rfl
  · obtain ⟨d, n, rfl, hD, q⟩ := h
    refine ⟨_, (pss_cons (ps_set (i := 1) sc_law_permutation.nd rfl (.inl rfl) (pe_lst (pa_cons pe_int (pa_cons pe_int (pa_cons pe_int (pa_cons pe_int (pa_cons pe_int pa_nil)))))))
      (pss_cons (ps_set (i := 2) sc_law_permutation.nd rfl (.inl rfl) (pe_lst pa_nil))
      (pss_cons (ps_for PassesOwn.never rfl (pi_range1 (by rfl) T.m_range (pa_cons pe_int pa_nil)) (pg_name (i := 3) sc_law_permutation.nd rfl (Or.inl rfl))
      (pss_cons (ps_set (i := 4) sc_law_permutation.nd rfl (.inl rfl) (pe_op op_mod (pe_call (ok_law_draw T) hr (by rfl) T.g_law_draw T.F_law_draw.kp T.b_law_draw .nil pass0 (pa_cons (pv 0) pa_nil)) (pe_callB (id := "len") (r := rLen K) cr_len (by rfl) T.m_len PySem.boot_len (pa_cons (pv 1) pa_nil))))
      (pss_cons (ps_expr (pe_bm PySem.F.plainAttrs_list PySem.F.slot_list_append PySem.F.type_list_append mt_append (pv 2) (pa_cons (pe_ix (r := rIxL K) ix_list (pv 1) (pv 4) (fun _ _ => rfl)) pa_nil)))
      (pss_one (ps_set (i := 1) sc_law_permutation.nd rfl (.inl rfl) (pe_op op_cat (pe_slice (r := rSlL K) sl_list (pv 1) po_none (po_some (pv 4))) (pe_slice (r := rSlL K) sl_list (pv 1) (po_some (pe_op op_add (pv 4) pe_int)) po_none)))))))
      (pss_one (ps_ret (pe_callTy (T := "tuple") (r := rTupOf K) cr_tup_of (by rfl) T.m_tuple (by decide +kernel) (pa_cons (pv 2) pa_nil))))))), ?_⟩
    walk_at "start"
    walk_at "x"
    refine ⟨by show 5 ≤ sizeLine; decide, fun r hr => ?_⟩
    have k1 := Same.keep (d := d) (same_upd (o := .lst [.int 0, .int 1, .int 2, .int 3, .int 4]) hr)
    have hD1 := hD.upd0 (o := .lst [.int 0, .int 1, .int 2, .int 3, .int 4]) hr
    have e1 : (upd H r (.lst [.int 0, .int 1, .int 2, .int 3, .int 4])) r = some (.lst (cInts [0, 1, 2, 3, 4])) := upd_same
    have hrd := hD.new hr
    generalize upd H r (.lst [.int 0, .int 1, .int 2, .int 3, .int 4]) = H1 at k1 hD1 e1
    walk_at "x"
    refine ⟨by show 0 ≤ sizeLine; decide, fun u hu => ?_⟩
    have k2 := k1.trans (Same.keep (d := d) (same_upd (o := .lst []) hu))
    have hD2 := hD1.upd0 (o := .lst []) hu
    have e2 : (upd H1 u (.lst [])) u = some (.lst (cInts [])) := upd_same
    have e3 : (upd H1 u (.lst [])) r = some (.lst (cInts [0, 1, 2, 3, 4])) := same_upd hu _ _ e1
    have hud := hD1.new hu
    have hun := hD1.newN hu
    have hru : r ≠ u := ne_of_none e1 hu
    have hu0 : H u = none := by
      cases e : H u with
      | none => rfl
      | some o =>
        by_cases hh : u = d
        · exact absurd hh hud
        · rw [k1 _ _ e hh] at hu; cases hu
    generalize upd H1 u (.lst []) = H2 at k2 hD2 e2 e3
    walk_at "x"
    refine x_forR1 5 (fun i σ' H' => Dr H' d n ∧ Keep d H H' ∧ ∃ (r : Addr) (v3 v4 : Option V) (rs ss : List Nat), σ' = [some (.ref d), some (.ref r), some (.ref u), v3, v4] ∧ r ≠ d ∧ r ≠ u ∧ H' r = some (.lst (cInts rs)) ∧ H' u = some (.lst (cInts ss)) ∧ ss.length = i ∧ ss.length + rs.length = 5 ∧ (ss ++ rs).Nodup ∧ ∀ x, x ∈ ss ++ rs → x < 5) (fun R r => r) (by decide) (by decide)
      ⟨hD2, k2, r, none, none, [0, 1, 2, 3, 4], [], rfl, hrd, hru, e3, e2, rfl, rfl, by decide, by decide⟩ ?_ ?_
    · rintro i σ' H3 hi ⟨hD3, k3, r, v3, v4, rs, ss, rfl, hrd, hru, e3, e2, hl, hl5, hnd, hlt⟩
      walk_at "x"
      refine ⟨d, n, rfl, hD3, ?_⟩
      rintro _ H4 ⟨z, rfl, z0, z1⟩ hD4 k4
      have e3 := k4 _ _ e3 hrd
      have e2 := k4 _ _ e2 hud
      have k4 := k3.trans k4
      walk_at "x"
      refine x_len (sq_of e3) ?_
      rw [cInts_len]
      walk_at "x"
      obtain ⟨a, ea, ha⟩ := cast_lt (x := z % (rs.length : Int)) (c := rs.length) (Int.emod_nonneg z (show (rs.length : Int) ≠ 0 by omega)) (Int.emod_lt_of_pos z (show (0 : Int) < rs.length by omega))
      rw [ea]
      refine x_tyL e2 ?_
      walk_at "x"
      refine x_ixL (v := .int ((rs[a] : Nat) : Int)) (sq_of e3) (atI_nat (by unfold cInts; rw [List.getElem?_map, List.getElem?_eq_getElem ha]; rfl)) ?_
      walk_at "x"
      refine x_app e2 (by rw [cInts_len]; omega) ?_
      rw [cInts_snoc]
      have hD5 := hD4.upd (o := .lst (cInts (ss ++ [rs[a]]))) hud hun
      have k5 : Keep d H (upd H4 u (.lst (cInts (ss ++ [rs[a]])))) := fun b o e hb => by
        by_cases hbu : b = u
        · subst hbu
          rw [hu0] at e
          cases e
        · rw [upd_ne hbu]
          exact k4 b o e hb
      have e2 : (upd H4 u (.lst (cInts (ss ++ [rs[a]])))) u = _ := upd_same
      have e3 : (upd H4 u (.lst (cInts (ss ++ [rs[a]])))) r = some (.lst (cInts rs)) := by rw [upd_ne hru]; exact e3
      generalize upd H4 u (.lst (cInts (ss ++ [rs[a]]))) = H5 at hD5 k5 e2 e3
      walk_at "x"
      refine x_sl2 ?_
      walk_at "x"
      refine x_part0 ?_
      refine x_part1 ?_
      walk_at "x"
      refine ⟨_, rfl, ?_⟩
      refine x_cutL (sq_of e3) fun p hp => ?_
      rw [cutV_to (by rw [cInts_len]; omega), cInts_take]
      have s6 := same_upd (o := .lst (cInts (rs.take a))) hp
      have e6 : (upd H5 p (.lst (cInts (rs.take a)))) p = _ := upd_same
      generalize upd H5 p (.lst (cInts (rs.take a))) = H6 at s6 e6
      refine x_sl2 ?_
      walk_at "x"
      refine x_part1 ?_
      walk_at "x"
      refine ⟨_, rfl, x_part0 ?_⟩
      refine x_cutL (sq_of (s6 _ _ e3)) fun p2 hp2 => ?_
      rw [show (a : Int) + 1 = ((a + 1 : Nat) : Int) by omega, cutV_from (by rw [cInts_len]; omega), cInts_drop]
      have s7 := s6.trans (same_upd (o := .lst (cInts (rs.drop (a + 1)))) hp2)
      have e7 := same_upd (o := .lst (cInts (rs.drop (a + 1)))) hp2 _ _ e6
      have e8 : (upd H6 p2 (.lst (cInts (rs.drop (a + 1))))) p2 = _ := upd_same
      generalize upd H6 p2 (.lst (cInts (rs.drop (a + 1)))) = H7 at s7 e7 e8
      refine x_cat e7 e8 (by rw [cInts_len, cInts_len, List.length_take, List.length_drop]; omega) fun p3 hp3 => ?_
      rw [cInts_app]
      have s9 := s7.trans (same_upd (o := .lst (cInts (rs.take a ++ rs.drop (a + 1)))) hp3)
      have hp3d : p3 ≠ d := (hD5.same s7).new hp3
      have hp3u : p3 ≠ u := (ne_of_none (s7 _ _ e2) hp3).symm
      have hsp := split_at ha
      have hperm : (ss ++ rs).Perm (ss ++ [rs[a]] ++ (rs.take a ++ rs.drop (a + 1))) := by
        rw [List.append_assoc]
        refine List.Perm.append_left _ ?_
        rw [List.singleton_append]
        have : rs.Perm (rs[a] :: (rs.take a ++ rs.drop (a + 1))) := by
          conv => lhs; rw [hsp]
          exact List.perm_middle
        exact this
      walk_at "x"
      refine ⟨hD5.same s9, k5.trans (Same.keep s9), p3, _, _, rs.take a ++ rs.drop (a + 1), ss ++ [rs[a]], rfl, hp3d, hp3u, upd_same, s9 _ _ e2, by rw [List.length_append, hl]; rfl, ?_, hperm.nodup hnd, fun x hx => hlt x (hperm.mem_iff.mpr hx)⟩
      rw [List.length_append, List.length_append, List.length_take, List.length_drop, List.length_singleton]
      omega
    · rintro σ' H3 ⟨hD3, k3, r, v3, v4, rs, ss, rfl, hrd, hru, e3, e2, hl, hl5, hnd, hlt⟩
      walk_at "x"
      have hl : ss.length = 5 := hl
      have hrs : rs = [] := List.length_eq_zero_iff.mp (by omega)
      subst hrs
      rw [List.append_nil] at hnd hlt
      refine x_tupL (sq_of e2) fun l hl0 => ?_
      exact q _ _ ⟨l, ss, rfl, upd_same, ⟨hl, hlt, hnd⟩⟩ (hD3.upd0 hl0) (k3.trans (Same.keep (same_upd hl0)))


def sp_law_bits (K : PySem.W.Frag) : Sp := fun vs H Q _ => ∃ (d n : Addr), vs = [.ref d] ∧ Dr H d n ∧ RetG d n (fun v H' => ∃ (a : Addr) (bs : List Bool), v = .ref a ∧ a ≠ d ∧ a ≠ n ∧ H a = none ∧ H' a = some (.lst (bls bs)) ∧ bs.length = 60) H Q
theorem ok_law_bits (T : Txt K mg) : FnOk P w K mg base CX0 3 T.a_law_bits T.fd_law_bits ["draws"] (sp_law_bits K) := by
  refine T.F_law_bits.ok sc_law_bits (fun vs H Q E h => ?_) (fun cdv A outer s H vs Q E hr h => ?_)
  · obtain ⟨d, n, rfl, _⟩ := h
    rfl
  · obtain ⟨d, n, rfl, hD, q⟩ := h
    refine ⟨_, (pss_one (ps_ret (pe_lc (own := [("k", 1)]) (g := gName 1) (tt := tYes) rfl sc_law_bits.nd (pi_range1 (by rfl) T.m_range (pa_cons pe_int pa_nil)) (blkOk_by (N := N_law_bits) (sc := defScope s_law_bits) (by decide +kernel)) (fun _ _ _ _ _ => (pg_name (i := 1) sc_law_bits.nd rfl (Or.inl rfl))) (fun _ _ _ _ _ => pts_nil) (fun _ _ _ _ _ => (pe_cmpR op_eq (pe_op op_mod (pe_call (ok_law_draw T) hr (by rfl) T.g_law_draw T.F_law_draw.kp T.b_law_draw .nil pass0 (pa_cons (pv 0) pa_nil)) pe_int) pe_int (nomark _)))))), ?_⟩
    walk_at "start"
    walk_at "x"
    refine x_lcR1 60 (fun p k H' => Dr H' d n ∧ Keep d H H' ∧ p ≠ d ∧ p ≠ n ∧ ∃ bs : List Bool, H' p = some (.lst (bls bs)) ∧ bs.length = k) (fun R r => r) (by decide) (by decide) (fun p hp => ⟨hD.upd0 hp, Same.keep (same_upd hp), hD.new hp, hD.newN hp, [], upd_same, rfl⟩) (fun x => rfl) ?_ ?_
    · rintro p k H3 hp hk ⟨hD3, hk3, hpd, hpn, bs, hP, hbl⟩
      walk_at "x"
      refine ⟨d, n, rfl, hD3, ?_⟩
      rintro _ H4 ⟨w, rfl, w0, w1⟩ hD4 hk4
      walk_at "x"
      exact ⟨_, hk4 _ _ hP hpd, lt_line (by rw [bls_len]; omega), hD4.upd hpd hpn, kput (hk3.trans hk4) hp, hpd, hpn, bs ++ [_], by rw [upd_same, bls_snoc], by rw [List.length_append, hbl]; rfl⟩
    · rintro p H3 hp ⟨hD3, hk3, hpd, hpn, bs, hP, hbl⟩
      exact q _ _ ⟨p, bs, rfl, hpd, hpn, hp, hP, hbl⟩ hD3 hk3


def TrsAt (H : Hp) (as : List Addr) (ws : List Tr) : Prop := as.length = ws.length ∧ ∀ (i : Nat) t b, ws[i]? = some t → as[i]? = some b → TrAt H b t
theorem TrsAt.tups {H H' : Hp} {as : List Addr} {ws : List Tr} (h : TrsAt H as ws) (k : ∀ b xs, H b = some (.tup xs) → H' b = some (.tup xs)) : TrsAt H' as ws := ⟨h.1, fun i x b e1 e2 => (h.2 i x b e1 e2).tups k⟩
theorem TrsAt.get {H : Hp} {as : List Addr} {ws : List Tr} (h : TrsAt H as ws) {i : Nat} {b : Addr} (e : as[i]? = some b) : ∃ x, ws[i]? = some x ∧ TrAt H b x := by
  have hl := (List.getElem?_eq_some_iff.mp e).1
  have hl2 : i < ws.length := by rw [← h.1]; exact hl
  exact ⟨_, List.getElem?_eq_getElem hl2, h.2 i _ b (List.getElem?_eq_getElem hl2) e⟩
theorem TrsAt.snoc {H : Hp} {as : List Addr} {ws : List Tr} {b : Addr} {x : Tr} (h : TrsAt H as ws) (hx : TrAt H b x) : TrsAt H (as ++ [b]) (ws ++ [x]) := by
  refine ⟨by rw [List.length_append, List.length_append, h.1]; rfl, fun i y c e1 e2 => ?_⟩
  rcases snoc_at rfl e1 with ⟨h1, e1⟩ | ⟨h1, rfl⟩
  · rcases snoc_at rfl e2 with ⟨h2, e2⟩ | ⟨h2, rfl⟩
    · exact h.2 i y c e1 e2
    · have := h.1; omega
  · rcases snoc_at rfl e2 with ⟨h2, e2⟩ | ⟨h2, rfl⟩
    · have := h.1; omega
    · exact hx
theorem TrsAt.dats {d : Addr} {H : Hp} {as : List Addr} {ws : List Tr} (h : TrsAt H as ws) : DAts d H (as.map V.ref) (ws.map trD) := by
  refine DAts.of (by rw [List.length_map, List.length_map, h.1]) fun i x e h1 h2 => ?_
  obtain ⟨b, hb, rfl⟩ := map_getR h1
  obtain ⟨g, hg, hat⟩ := h.get hb
  rw [List.getElem?_map, hg] at h2
  cases h2
  exact hat.dat
def sp_law_sent (K : PySem.W.Frag) : Sp := fun vs H Q _ => ∃ (wa ba : Addr) (as : List Addr) (ws : List Tr) (bs : List Bool) (p : Nat), vs = [.ref wa, .ref ba, .int (p : Int)] ∧ H wa = some (.lst (as.map V.ref)) ∧ TrsAt H as ws ∧ (∀ t, t ∈ ws → TrOk t) ∧ H ba = some (.lst (bls bs)) ∧ needW ws ≤ bs.length ∧ p < 5 ∧ Q (.int (effF ws bs p : Nat)) H
theorem ok_law_sent (T : Txt K mg) : FnOk P w K mg base CX0 1 T.a_law_sent T.fd_law_sent ["word", "bits", "point"] (sp_law_sent K) := by
  refine T.F_law_sent.ok sc_law_sent (fun vs H Q E h => ?_) (fun cdv A outer s H vs Q E hr h => ?_)
  · obtain ⟨wa, ba, as, ws, bs, p, rfl, _⟩ := h
    rfl
  · obtain ⟨wa, ba, as, ws, bs, p, rfl, hwa, hW, hok, hba, hn, hp, q⟩ := h
    refine ⟨_, (pss_cons (ps_for PassesOwn.never rfl (pi_list (pv 0)) (pg_name (i := 3) sc_law_sent.nd rfl (Or.inl rfl))
      (pss_one (ps_if (pt_val (pe_ix (r := rIxL K) ix_list (pv 1) (pe_ix (r := rIxT K) ix_tup (pv 3) pe_int (fun _ _ => rfl)) (fun _ _ => rfl)))
      (pss_one (ps_set (i := 2) sc_law_sent.nd rfl (.inl rfl) (pe_ix (r := rIxT K) ix_tup (pe_ix (r := rIxT K) ix_tup (pv 3) pe_int (fun _ _ => rfl)) (pv 2) (fun _ _ => rfl))))
      (pss_one (ps_set (i := 2) sc_law_sent.nd rfl (.inl rfl) (pe_ix (r := rIxT K) ix_tup (pe_ix (r := rIxT K) ix_tup (pv 3) pe_int (fun _ _ => rfl)) (pv 2) (fun _ _ => rfl)))))))
      (pss_one (ps_ret (pv 2)))), ?_⟩
    walk_at "start"
    refine x_forL (p := wa) (as.map V.ref) (fun k σ' H' => ∃ v3, σ' = [some (.ref wa), some (.ref ba), some (.int ((effF (ws.take k) bs p : Nat) : Int)), v3] ∧ H = H') (fun R r => by walk_at "x"; exact r) (sq_of hwa) ⟨_, rfl, rfl⟩ (fun k σ' H' _ z => by obtain ⟨_, _, rfl⟩ := z; exact sq_of hwa) ?_ ?_
    · rintro k x σ' H4 hx ⟨v3, rfl, rfl⟩
      obtain ⟨a, ha, rfl⟩ := map_getR hx
      obtain ⟨t, ht, z, o, h1, h2, h3⟩ := hW.get ha
      have okt := hok _ (List.mem_of_getElem? ht)
      have hnt := needW_le (List.mem_of_getElem? ht)
      have hp5 : effF (ws.take k) bs p < 5 := effF_lt (fun t ht => hok t (List.mem_of_mem_take ht)) hp
      have hst : effF (ws.take (k + 1)) bs p = stepW bs (effF (ws.take k) bs p) t := by rw [take_snocG ht, effF_snoc]
      walk_at "x"
      refine x_ixT (v := .int (t.1 : Int)) (st_of h1) (atI_nat (j := 0) rfl) ?_
      refine x_ixL (sq_of hba) (atI_nat (bls_get (by omega))) ?_
      walk_at "x"
      refine x_iteB (fun hb => ?_) (fun hb => ?_)
      · walk_at "x"
        obtain ⟨g1, g2⟩ := pm_get okt.2.2 hp5
        refine x_ixT (v := .ref o) (st_of h1) (atI_nat (j := 2) rfl) ?_
        walk_at "x"
        refine x_ixT (v := .int ((t.2.2.getD (effF (ws.take k) bs p) 0 : Nat) : Int)) (st_of h3) (atI_nat (by unfold cInts; rw [List.getElem?_map, g1]; rfl)) ?_
        have : stepW bs (effF (ws.take k) bs p) t = t.2.2.getD (effF (ws.take k) bs p) 0 := by unfold stepW; rw [if_pos hb]
        rw [← this, ← hst]
        walk_at "x"
        exact ⟨_, rfl, rfl⟩
      · walk_at "x"
        obtain ⟨g1, g2⟩ := pm_get okt.2.1 hp5
        refine x_ixT (v := .ref z) (st_of h1) (atI_nat (j := 1) rfl) ?_
        walk_at "x"
        refine x_ixT (v := .int ((t.2.1.getD (effF (ws.take k) bs p) 0 : Nat) : Int)) (st_of h2) (atI_nat (by unfold cInts; rw [List.getElem?_map, g1]; rfl)) ?_
        have : stepW bs (effF (ws.take k) bs p) t = t.2.1.getD (effF (ws.take k) bs p) 0 := by unfold stepW; rw [if_neg (by rw [hb]; decide)]
        rw [← this, ← hst]
        walk_at "x"
        exact ⟨_, rfl, rfl⟩
    · rintro σ' H4 ⟨v3, rfl, rfl⟩
      walk_at "x"
      rw [List.length_map, hW.1, List.take_length]
      exact q


def sp_law_lacks (K : PySem.W.Frag) : Sp := fun vs H Q _ => ∃ (d wa ba : Addr) (as : List Addr) (ws : List Tr) (bs : List Bool), vs = [.ref wa, .ref ba] ∧ wa ≠ d ∧ ba ≠ d ∧ H wa = some (.lst (as.map V.ref)) ∧ TrsAt H as ws ∧ (∀ t, t ∈ ws → TrOk t) ∧ ws.length ≤ 20000 ∧ H ba = some (.lst (bls bs)) ∧ bs.length < needW ws ∧ bs.length ≤ 1000 ∧ ∀ H', Same H H' → Q (.bl true) H'
theorem ok_law_lacks (T : Txt K mg) : FnOk P w K mg base CX0 6 T.a_law_lacks T.fd_law_lacks ["word", "bits"] (sp_law_lacks K) := by
  refine T.F_law_lacks.ok sc_law_lacks (fun vs H Q E h => ?_) (fun cdv A outer s H vs Q E hr h => ?_)
  · obtain ⟨d, wa, ba, as, ws, bs, rfl, _⟩ := h
    rfl
  · obtain ⟨d, wa, ba, as, ws, bs, rfl, hwd, hbd, hwa, hW, hok, hl, hba, hn, hb9, q⟩ := h
    refine ⟨_, (pss_cons (ps_try_as (i := 2) rfl rfl sc_law_lacks.nd rfl rfl ⟨rfl, by decide, .inl T.gE_BadMemory⟩ takes0 (fun W pn xe tk _ => (pss_one (ps_expr (pe_callS (sp := sp_effect T.E_BadWord T.E_BadMemory K) (E := WE W) (ok_effect T) hr (by rfl) T.g_effect T.F_effect.kp T.b_effect (fun σ => passAt tk σ) (pa_cons (pv 0) (pa_cons (pv 1) (pa_cons pe_int pa_nil)))))))
      (fun a oe cls d pn hz hf => (pss_one (ps_ret (pe_not (pe_callB (id := "isinstance") (r := rIsEQ K a cls d) (call_isEQ rfl hz hf) (by rfl) T.m_isinstance (by decide +kernel) (pa_cons (pv 2) (pa_cons (pe_glob (v := .ref T.E_BadWord) (by rfl) T.gE_BadWord rfl) pa_nil))))))))
      (pss_one (ps_ret pe_bl))), ?_⟩
    walk_at "start"
    walk_at "x"
    refine x_callS ?_
    walk_at "x"
    have hwD : wordD (.list (ws.map trD)) = true := wordD_iff.mpr ⟨ws, rfl, hl, hok⟩
    refine ⟨d, _, _, _, .list (ws.map trD), blsD bs, .int 0, rfl, .lst hwd hwa hW.dats, .lst hbd hba DAts.bls, .int 0, fun es e => by cases e; rw [List.length_map]; omega, fun h => ?_, fun ws' e h => ⟨fun hb H' s => ?_, fun bs' p e1 e2 h1 h2 => ?_⟩⟩
    · rw [hwD] at h
      cases h
    · refine ⟨true, PySem.W.exm_ref T.bE_BadMemory T.dE_BadMemory T.tE_BadMemory T.sE_BadMemory_BadMemory, (fun _ a ha => ?_), (fun z => nomatch z)⟩
      walk_at "x"
      refine ⟨_, _, false, rfl, rfl, T.cE_BadMemory, rfl, kit_ref T.dE_BadWord T.tE_BadWord T.sE_BadMemory_BadWord T.sE_BadWord_BadWord, ?_⟩
      walk_at "x"
      exact q H' s
    · exfalso
      have ew : ws' = ws := by
        have hh : (ws'.map trD) = ws.map trD := (PyData.list.inj e).symm
        have hin : Function.Injective trD := fun a b hab => by
          have := congrArg (fun e => match e with | PyData.tuple [.int k, .tuple z, .tuple o] => (k, z.map intD, o.map intD) | _ => (0, [], [])) hab
          have h1 : ((a.1 : Int), (a.2.1.map fun (c : Nat) => PyData.int (c : Int)).map intD, (a.2.2.map fun (c : Nat) => PyData.int (c : Int)).map intD) = ((b.1 : Int), (b.2.1.map fun (c : Nat) => PyData.int (c : Int)).map intD, (b.2.2.map fun (c : Nat) => PyData.int (c : Int)).map intD) := this
          rw [map_intD, map_intD, map_intD, map_intD] at h1
          have hm : ∀ {x y : List Nat}, (x.map fun (c : Nat) => (c : Int)) = (y.map fun (c : Nat) => (c : Int)) → x = y := fun hxy => (List.map_inj_right (fun _ _ z => Int.ofNat.inj z)).mp hxy
          obtain ⟨k1, k2⟩ := Prod.mk.inj h1
          obtain ⟨k2, k3⟩ := Prod.mk.inj k2
          exact Prod.ext (Int.ofNat.inj k1) (Prod.ext (hm k2) (hm k3))
        exact (List.map_inj_right hin).mp hh
      subst ew
      have e1 : bs = bs' := by
        have hh := PyData.list.inj e1
        exact (List.map_inj_right (fun _ _ z => PyData.bool.inj z)).mp hh
      subst e1
      omega



def sp_law_equal (n : Nat) (K : PySem.W.Frag) : Sp := fun vs H Q _ => ∃ v u, vs = [v, u] ∧ Eqv K H n v u ∧ Q (.bl true) H
def sp_law_all_equal (n : Nat) (K : PySem.W.Frag) : Sp := fun vs H Q _ => ∃ (a b : Addr) (xs ys : List V), vs = [.ref a, .ref b] ∧ ((H a = some (.lst xs) ∧ H b = some (.lst ys)) ∨ (H a = some (.tup xs) ∧ H b = some (.tup ys))) ∧ xs.length = ys.length ∧ ys.length ≤ 100000 ∧ (∀ (i : Nat) x y, xs[i]? = some x → ys[i]? = some y → Eqv K H n x y) ∧ Q (.bl true) H
theorem x_ixQ {K : PySem.W.Frag} {H : Hp} {a b : Addr} {xs ys : List V} {i : Int} {v : V} {Q : VK} (h : (H a = some (.lst xs) ∧ H b = some (.lst ys)) ∨ (H a = some (.tup xs) ∧ H b = some (.tup ys))) (hi : atI xs i = some v) (q : Q v H) : rIx K (.ref a) (.int i) H Q := by
  rcases h with h | h
  · exact .inl (x_ixL (sq_of h.1) hi q)
  · exact .inr (.inl (x_ixT (st_of h.1) hi q))
theorem x_ixQ2 {K : PySem.W.Frag} {H : Hp} {a b : Addr} {xs ys : List V} {i : Int} {v : V} {Q : VK} (h : (H a = some (.lst xs) ∧ H b = some (.lst ys)) ∨ (H a = some (.tup xs) ∧ H b = some (.tup ys))) (hi : atI ys i = some v) (q : Q v H) : rIx K (.ref b) (.int i) H Q := by
  rcases h with h | h
  · exact .inl (x_ixL (sq_of h.2) hi q)
  · exact .inr (.inl (x_ixT (st_of h.2) hi q))
theorem all_equal_of (T : Txt K mg) (n : Nat) (G_law_equal : FnOk P w K mg base CX0 (2 * n + 1) T.a_law_equal T.fd_law_equal ["actual", "due"] (sp_law_equal n K)) : FnOk P w K mg base CX0 (2 * n + 2) T.a_law_all_equal T.fd_law_all_equal ["actual", "due"] (sp_law_all_equal n K) := by
  refine T.F_law_all_equal.ok sc_law_all_equal (fun vs H Q E h => ?_) (fun cdv A outer s H vs Q E hr h => ?_)
  · obtain ⟨a, b, xs, ys, rfl, _⟩ := h
    rfl
  · obtain ⟨a, b, xs, ys, rfl, hab, hl, hz, he, q⟩ := h
    refine ⟨_, (pss_cons (ps_for PassesOwn.never rfl (pi_range1 (by rfl) T.m_range (pa_cons (pe_callB (id := "len") (r := rLen K) cr_len (by rfl) T.m_len PySem.boot_len (pa_cons (pv 1) pa_nil)) pa_nil)) (pg_name (i := 2) sc_law_all_equal.nd rfl (Or.inl rfl))
      (pss_one (ps_if (pt_not (pt_val (pe_call G_law_equal (hr.mono (by omega)) (by rfl) T.g_law_equal T.F_law_equal.kp T.b_law_equal .nil pass0 (pa_cons (pe_ix (r := rIx K) ix_seq (pv 0) (pv 2) (fun _ _ => rfl)) (pa_cons (pe_ix (r := rIx K) ix_seq (pv 1) (pv 2) (fun _ _ => rfl)) pa_nil)))))
      (pss_one (ps_ret pe_bl))
      pss_nil)))
      (pss_one (ps_ret pe_bl))), ?_⟩
    walk_at "start"
    refine x_forR1 (ys.length : Int) (fun i σ' H' => H = H' ∧ ∃ v2, σ' = [some (.ref a), some (.ref b), v2]) (fun R r => by
      walk_at "x"
      rcases hab with h | h
      · refine x_len (sq_of h.2) ?_
        exact r
      · refine x_lenT (st_of h.2) ?_
        exact r) (by omega) (by omega) ⟨rfl, _, rfl⟩ ?_ ?_
    · rintro i σ' H' hi ⟨rfl, v2, rfl⟩
      obtain ⟨x, gx⟩ : ∃ x, xs[i]? = some x := ⟨_, List.getElem?_eq_getElem (by omega)⟩
      obtain ⟨y, gy⟩ : ∃ y, ys[i]? = some y := ⟨_, List.getElem?_eq_getElem (by omega)⟩
      walk_at "x"
      refine x_ixQ hab (atI_nat gx) ?_
      walk_at "x"
      refine x_ixQ2 hab (atI_nat gy) ?_
      walk_at "x"
      refine ⟨x, y, rfl, he i x y gx gy, ?_⟩
      walk_at "x"
      walk_at "f"
      exact ⟨rfl, _, rfl⟩
    · rintro σ' H' ⟨rfl, v2, rfl⟩
      walk_at "x"
      exact q
theorem ok_law_equal (T : Txt K mg) : ∀ n : Nat, FnOk P w K mg base CX0 (2 * n + 1) T.a_law_equal T.fd_law_equal ["actual", "due"] (sp_law_equal n K)
  | 0 => by
    refine T.F_law_equal.ok sc_law_equal (fun vs H Q E h => ?_) (fun cdv A outer s H vs Q E hr h => ?_)
    · obtain ⟨v, u, rfl, h, _⟩ := h
      exact h.elim
    · obtain ⟨v, u, rfl, h, _⟩ := h
      exact h.elim
  | n + 1 => by
    have G_law_all_equal := all_equal_of T n (ok_law_equal T n)
    refine T.F_law_equal.ok (k := 2 * n + 2) sc_law_equal (fun vs H Q E h => ?_) (fun cdv A outer s H vs Q E hr h => ?_)
    · obtain ⟨v, u, rfl, _⟩ := h
      rfl
    · obtain ⟨v, u, rfl, h, q⟩ := h
      refine ⟨_, (pss_cons (ps_if (pt_val (pe_callB (id := "isinstance") (r := rIsi K) call_isi (by rfl) T.m_isinstance (by decide +kernel) (pa_cons (pv 1) (pa_cons (pe_bltn (v := .ty "list") (by rfl) T.m_list (by decide +kernel) rfl) pa_nil))))
      (pss_cons (ps_if (PW.pt (pw_or (pt_not (pt_val (pe_callB (id := "isinstance") (r := rIsi K) call_isi (by rfl) T.m_isinstance (by decide +kernel) (pa_cons (pv 0) (pa_cons (pe_bltn (v := .ty "list") (by rfl) T.m_list (by decide +kernel) rfl) pa_nil))))) (pw_or1 (pt_cmpR op_ne (pe_callB (id := "len") (r := rLen K) cr_len (by rfl) T.m_len PySem.boot_len (pa_cons (pv 0) pa_nil)) (pe_callB (id := "len") (r := rLen K) cr_len (by rfl) T.m_len PySem.boot_len (pa_cons (pv 1) pa_nil)) (nomark _)))))
      (pss_one (ps_ret pe_bl))
      pss_nil)
      (pss_one (ps_ret (pe_call G_law_all_equal (hr.mono (by omega)) (by rfl) T.g_law_all_equal T.F_law_all_equal.kp T.b_law_all_equal .nil pass0 (pa_cons (pv 0) (pa_cons (pv 1) pa_nil))))))
      pss_nil)
      (pss_cons (ps_if (pt_val (pe_callB (id := "isinstance") (r := rIsi K) call_isi (by rfl) T.m_isinstance (by decide +kernel) (pa_cons (pv 1) (pa_cons (pe_bltn (v := .ty "tuple") (by rfl) T.m_tuple (by decide +kernel) rfl) pa_nil))))
      (pss_cons (ps_if (PW.pt (pw_or (pt_not (pt_val (pe_callB (id := "isinstance") (r := rIsi K) call_isi (by rfl) T.m_isinstance (by decide +kernel) (pa_cons (pv 0) (pa_cons (pe_bltn (v := .ty "tuple") (by rfl) T.m_tuple (by decide +kernel) rfl) pa_nil))))) (pw_or1 (pt_cmpR op_ne (pe_callB (id := "len") (r := rLen K) cr_len (by rfl) T.m_len PySem.boot_len (pa_cons (pv 0) pa_nil)) (pe_callB (id := "len") (r := rLen K) cr_len (by rfl) T.m_len PySem.boot_len (pa_cons (pv 1) pa_nil)) (nomark _)))))
      (pss_one (ps_ret pe_bl))
      pss_nil)
      (pss_one (ps_ret (pe_call G_law_all_equal (hr.mono (by omega)) (by rfl) T.g_law_all_equal T.F_law_all_equal.kp T.b_law_all_equal .nil pass0 (pa_cons (pv 0) (pa_cons (pv 1) pa_nil))))))
      pss_nil)
      (pss_cons (ps_if (pt_val (pe_callB (id := "isinstance") (r := rIsi K) call_isi (by rfl) T.m_isinstance (by decide +kernel) (pa_cons (pv 1) (pa_cons (pe_bltn (v := .ty "bool") (by rfl) T.m_bool (by decide +kernel) rfl) pa_nil))))
      (pss_one (ps_ret (pe_and (pe_callB (id := "isinstance") (r := rIsi K) call_isi (by rfl) T.m_isinstance (by decide +kernel) (pa_cons (pv 0) (pa_cons (pe_bltn (v := .ty "bool") (by rfl) T.m_bool (by decide +kernel) rfl) pa_nil))) (pe_one (pe_cmpR op_eq (pv 0) (pv 1) (nomark _))))))
      pss_nil)
      (pss_cons (ps_if (pt_val (pe_callB (id := "isinstance") (r := rIsi K) call_isi (by rfl) T.m_isinstance (by decide +kernel) (pa_cons (pv 1) (pa_cons (pe_bltn (v := .ty "int") (by rfl) T.m_int (by decide +kernel) rfl) pa_nil))))
      (pss_one (ps_ret (pe_and (pe_callB (id := "isinstance") (r := rIsi K) call_isi (by rfl) T.m_isinstance (by decide +kernel) (pa_cons (pv 0) (pa_cons (pe_bltn (v := .ty "int") (by rfl) T.m_int (by decide +kernel) rfl) pa_nil))) (pe_and (pe_not (pe_callB (id := "isinstance") (r := rIsi K) call_isi (by rfl) T.m_isinstance (by decide +kernel) (pa_cons (pv 0) (pa_cons (pe_bltn (v := .ty "bool") (by rfl) T.m_bool (by decide +kernel) rfl) pa_nil)))) (pe_one (pe_cmpR op_eq (pv 0) (pv 1) (nomark _)))))))
      pss_nil)
      (pss_cons (ps_if (pt_val (pe_callB (id := "isinstance") (r := rIsi K) call_isi (by rfl) T.m_isinstance (by decide +kernel) (pa_cons (pv 1) (pa_cons (pe_bltn (v := .ty "str") (by rfl) T.m_str (by decide +kernel) rfl) pa_nil))))
      (pss_one (ps_ret (pe_and (pe_callB (id := "isinstance") (r := rIsi K) call_isi (by rfl) T.m_isinstance (by decide +kernel) (pa_cons (pv 0) (pa_cons (pe_bltn (v := .ty "str") (by rfl) T.m_str (by decide +kernel) rfl) pa_nil))) (pe_one (pe_cmpR op_eq (pv 0) (pv 1) (nomark _))))))
      pss_nil)
      (pss_one (ps_ret (pe_cmpR op_isN1 (pv 0) pe_non (nomark _))))))))), ?_⟩
      walk_at "start"
      rcases h with ⟨i, rfl, rfl⟩ | ⟨z, rfl, rfl⟩ | ⟨z, rfl, rfl⟩ | ⟨rfl, rfl⟩ | ⟨a, b, xs, ys, rfl, rfl, hab, hl, hz, he⟩
      · walk_at "x"
        walk_at "is"
        walk_at "f"
        walk_at "is"
        walk_at "f"
        walk_at "is"
        walk_at "f"
        walk_at "is"
        walk_at "t"
        walk_at "is"
        walk_at "t"
        walk_at "is"
        walk_at "t"
        rw [decide_eq_true rfl]
        exact q
      · walk_at "x"
        walk_at "is"
        walk_at "f"
        walk_at "is"
        walk_at "f"
        walk_at "is"
        walk_at "f"
        walk_at "is"
        walk_at "f"
        walk_at "is"
        walk_at "t"
        walk_at "is"
        walk_at "t"
        refine x_Eq rfl ?_
        rw [decide_eq_true rfl]
        exact q
      · walk_at "x"
        walk_at "is"
        walk_at "f"
        walk_at "is"
        walk_at "f"
        walk_at "is"
        walk_at "t"
        walk_at "is"
        walk_at "t"
        rw [decide_eq_true rfl]
        exact q
      · walk_at "x"
        walk_at "is"
        walk_at "f"
        walk_at "is"
        walk_at "f"
        walk_at "is"
        walk_at "f"
        walk_at "is"
        walk_at "f"
        walk_at "is"
        walk_at "f"
        rw [decide_eq_true rfl]
        exact q
      · rcases id hab with ⟨h1, h2⟩ | ⟨h1, h2⟩
        · walk_at "x"
          walk_at "is"
          walk_at "t"
          walk_at "is"
          walk_at "f"
          refine x_len (sq_of h1) ?_
          walk_at "x"
          refine x_len (sq_of h2) ?_
          walk_at "x"
          rw [hl, decide_eq_true rfl]
          walk_at "f"
          exact ⟨a, b, xs, ys, rfl, hab, hl, hz, he, q⟩
        · walk_at "x"
          walk_at "is"
          walk_at "f"
          walk_at "is"
          walk_at "t"
          walk_at "is"
          walk_at "f"
          refine x_lenT (st_of h1) ?_
          walk_at "x"
          refine x_lenT (st_of h2) ?_
          walk_at "x"
          rw [hl, decide_eq_true rfl]
          walk_at "f"
          exact ⟨a, b, xs, ys, rfl, hab, hl, hz, he, q⟩


end
end Br
namespace Br
open PySem PySem.Spec PyProof.Rows L2
local macro_rules | `(tactic| walk_at "x1") => `(tactic| (with_reducible first
  | refine Br.x_seq ?_ | refine Br.x_set ?_ | refine Br.x_asg ?_ | refine Br.x_next ?_ | refine Br.x_ret ?_ | refine Br.x_retN ?_ | refine Br.x_drop ?_ | refine Br.x_if ?_ | refine Br.x_brk ?_ | refine Br.x_cont ?_
  | refine Br.x_c ?_ | refine Br.x_op ?_ | refine Br.x_un ?_ | refine Br.x_I0 ?_ | refine Br.x_U ?_ | refine Br.x_EqI ?_ | refine Br.x_NeI ?_ | refine Br.x_EqB ?_ | refine Br.x_iN ?_ | refine Br.x_int1 ?_ | refine Br.x_min2 ?_ | refine Br.x_max2 ?_ | refine Br.x_nN ?_ | refine Br.x_ifE ?_
  | refine Br.x_test (b := ()) ?_ | refine Br.x_tB ?_ | refine Br.x_bl ?_ | refine Br.x_and ?_ | refine Br.x_or ?_ | refine Br.x_not ?_ | refine Br.x_andV ?_ | refine Br.x_orV ?_ | refine Br.x_notV ?_ | refine Br.x_blP ?_
  | refine Br.x_nil ?_ | refine Br.x_cons ?_ | refine Br.x_call ?_ | refine Br.x_CB ?_ | refine Br.x_BM ?_ | refine Br.x_tup ?_ | refine Br.x_lst ?_ | refine Br.x_chain ?_ | refine Br.x_par ?_ | refine Br.x_gSub ?_ | refine Br.x_gName ?_ | refine Br.x_fld ?_ | refine Br.x_fldS ?_ | refine Br.x_match ?_ | refine Br.x_else ?_ | refine Br.x_noCase ?_))
local macro_rules | `(tactic| walk_at "xv") => `(tactic| ((with_reducible refine' Br.x_var ?hvar ?_); (case hvar => rfl)))
local macro_rules | `(tactic| walk_at "xd") => `(tactic| (dsimp only [List.set_cons_zero, List.set_cons_succ, List.cons_append, List.nil_append, List.append_nil]))
local macro_rules | `(tactic| walk_at "xi") => `(tactic| ((with_reducible refine Br.x_I ?hside ?_); (case hside => first | exact Br.mul_r (by decide) (by decide) | exact Br.mul_l (by decide) (by decide) | exact Br.mul_l (by omega) (by omega) | exact Br.mul_r (by omega) (by omega) | (show (0 : Int) < _; first | decide | omega) | exact ⟨by decide, by decide⟩ | exact ⟨by omega, by omega⟩ | exact ⟨by decide, by decide, by decide⟩)))
local macro_rules | `(tactic| walk_at "x") => `(tactic| (repeat (first | walk_at "x1" | walk_at "xv" | walk_at "xi" | walk_at "xd")))
local macro_rules | `(tactic| walk_at "start") => `(tactic| (simp only [L2.start, List.map_cons, List.map_nil, List.length_cons, List.length_nil, Nat.reduceAdd, Nat.reduceSub, List.replicate, List.cons_append, List.nil_append, List.append_nil]))
local macro_rules | `(tactic| walk_at "isi") => `(tactic| first
  | refine Br.x_isi (b := true) (.base (.int _)) (by decide +kernel) ?_ | refine Br.x_isi (b := false) (.base (.int _)) (by decide +kernel) ?_
  | refine Br.x_isi (b := true) (.base (.bl _)) (by decide +kernel) ?_ | refine Br.x_isi (b := false) (.base (.bl _)) (by decide +kernel) ?_
  | refine Br.x_isi (b := false) (.base .non) (by decide +kernel) ?_
  | refine Br.x_isi (b := true) (.base (.str _)) (by decide +kernel) ?_ | refine Br.x_isi (b := false) (.base (.str _)) (by decide +kernel) ?_
  | refine Br.x_isi (b := true) (.base (.tup (by assumption))) (by decide +kernel) ?_ | refine Br.x_isi (b := false) (.base (.tup (by assumption))) (by decide +kernel) ?_
  | refine Br.x_isi (b := true) (.base (.lst (by assumption))) (by decide +kernel) ?_ | refine Br.x_isi (b := false) (.base (.lst (by assumption))) (by decide +kernel) ?_)
local macro_rules | `(tactic| walk_at "f") => `(tactic| (refine L2.iteF ?_; walk_at "x"))
local macro_rules | `(tactic| walk_at "t") => `(tactic| (refine L2.iteT ?_; walk_at "x"))
local macro_rules | `(tactic| walk_at "is") => `(tactic| (walk_at "isi"; walk_at "x"))
local macro_rules | `(tactic| walk_at "xb") => `(tactic| (simp only [Br.bindS, List.set_cons_zero, List.set_cons_succ]; walk_at "x"))

section
variable {P : Program} {w : World} {K : PySem.W.Frag} {mg : Str → Option Value} {base : Heap}

theorem Eqv.bls {K : PySem.W.Frag} {H : Hp} {n : Nat} {a b : Addr} {xs : List Bool} (h1 : H a = some (.lst (Br.bls xs))) (h2 : H b = some (.lst (Br.bls xs))) (hz : xs.length ≤ 100000) : Eqv K H (n + 2) (.ref a) (.ref b) :=
  Eqv.lst h1 h2 rfl (by rw [bls_len]; exact hz) fun i x y e1 e2 => by
    rw [e1] at e2
    cases e2
    obtain ⟨z, _, rfl⟩ := List.mem_map.mp (List.mem_of_getElem? e1)
    exact .bl
theorem keep_tupsG {d n : Addr} {H H' : Hp} (k : Keep d H H') (h : Dr H d n) : ∀ b xs, H b = some (.tup xs) → H' b = some (.tup xs) := fun b xs e => by
  obtain ⟨_, _, h, _⟩ := h
  exact k _ _ e (ne_of e h (by intro z; cases z))
theorem x_lcPreY {σ : L2.St} {H : Hp} {Q : VK} {ta : TE} {j : Nat} {te : TE} {vs : List Nat} (h : ta σ H fun v H1 => tLc (iRng1 (tCons (tC v) tNil)) (gName j) tYes te vs σ H1 Q) : tLc (iRng1 (tCons ta tNil)) (gName j) tYes te vs σ H Q := h
theorem x_forPre {σ : L2.St} {H : Hp} {D : Ends} {ta : TE} {g : TG} {tb : TS} (h : ta σ H fun v H1 => tFor (iRng1 (tCons (tC v) tNil)) g tb D σ H1) : tFor (iRng1 (tCons ta tNil)) g tb D σ H := h

open Br
theorem trD_inj : Function.Injective trD := fun a b hab => by
  have := congrArg (fun e => match e with | PyData.tuple [.int k, .tuple z, .tuple o] => (k, z.map intD, o.map intD) | _ => (0, [], [])) hab
  have h1 : ((a.1 : Int), (a.2.1.map fun (c : Nat) => PyData.int (c : Int)).map intD, (a.2.2.map fun (c : Nat) => PyData.int (c : Int)).map intD) = ((b.1 : Int), (b.2.1.map fun (c : Nat) => PyData.int (c : Int)).map intD, (b.2.2.map fun (c : Nat) => PyData.int (c : Int)).map intD) := this
  rw [map_intD, map_intD, map_intD, map_intD] at h1
  have hm : ∀ {x y : List Nat}, (x.map fun (c : Nat) => (c : Int)) = (y.map fun (c : Nat) => (c : Int)) → x = y := fun hxy => (List.map_inj_right (fun _ _ z => Int.ofNat.inj z)).mp hxy
  obtain ⟨k1, k2⟩ := Prod.mk.inj h1
  obtain ⟨k2, k3⟩ := Prod.mk.inj k2
  exact Prod.ext (Int.ofNat.inj k1) (Prod.ext (hm k2) (hm k3))
theorem words_inj {a b : List Tr} (h : PyData.list (a.map trD) = .list (b.map trD)) : a = b := (List.map_inj_right trD_inj).mp (PyData.list.inj h)
theorem blsD_inj {a b : List Bool} (h : blsD a = blsD b) : a = b := (List.map_inj_right (fun _ _ z => PyData.bool.inj z)).mp (PyData.list.inj h)
/-- effect of what is right -/
theorem effect_ok {CW CM d wa ba : Addr} {H : Hp} {Q : VK} {as : List Addr} {ws : List Tr} {bs : List Bool} {p : Nat} (hwd : wa ≠ d) (hbd : ba ≠ d) (hwa : H wa = some (.lst (as.map V.ref))) (hW : TrsAt H as ws) (hok : ∀ t, t ∈ ws → TrOk t) (hl : ws.length ≤ 20000) (hba : H ba = some (.lst (bls bs))) (hn : needW ws ≤ bs.length) (hb9 : bs.length ≤ 1000) (hp : p < 5)
    (q : ∀ H', Same H H' → Q (.int (effF ws bs p : Nat)) H') : sp_effect CW CM K [.ref wa, .ref ba, .int (p : Int)] H Q E0 := by
  have hwD : wordD (.list (ws.map trD)) = true := wordD_iff.mpr ⟨ws, rfl, hl, hok⟩
  have hpD : isBD 5 (.int (p : Int)) = true := isBD_iff.mpr ⟨_, rfl, by omega, by omega⟩
  refine ⟨d, _, _, _, .list (ws.map trD), blsD bs, .int (p : Int), rfl, .lst hwd hwa hW.dats, .lst hbd hba DAts.bls, .int _, fun es e => by cases e; rw [List.length_map]; omega, fun h => ?_, fun ws' e h => ⟨fun hb => ?_, fun bs' p' e1 e2 h1 h2 => ?_⟩⟩
  · rw [hwD, hpD] at h
    cases h
  · have := words_inj e
    subst this
    rw [bitsD_iff.mpr ⟨bs, rfl, by omega⟩] at hb
    cases hb
  · have h3 := words_inj e
    subst h3
    have h4 := blsD_inj e1
    subst h4
    have h5 : p = p' := by
      have := PyData.int.inj e2
      omega
    subst h5
    exact q
theorem TrAt.eqv {K : PySem.W.Frag} {H : Hp} {n : Nat} {a : Addr} {t : Tr} (h : TrAt H a t) (ok : TrOk t) : Eqv K H (n + 3) (.ref a) (.ref a) := by
  obtain ⟨z, o, h1, h2, h3⟩ := h
  have e : ∀ {c : Addr} {p : List Nat}, H c = some (.tup (cInts p)) → PmOk p → Eqv K H (n + 2) (.ref c) (.ref c) := fun hc hp => Eqv.self2 hc (by rw [cInts_len, hp.len]; decide) fun x hx => by
    obtain ⟨z, _, rfl⟩ := List.mem_map.mp hx
    exact .int
  refine Eqv.self2 h1 (Nat.le_of_ble_eq_true rfl) fun x hx => ?_
  have ex : x = .int (t.1 : Int) ∨ x = .ref z ∨ x = .ref o := by simpa using hx
  rcases ex with rfl | rfl | rfl
  · exact .int
  · exact e h2 ok.2.1
  · exact e h3 ok.2.2
theorem TrsAt.eqv {K : PySem.W.Frag} {H : Hp} {n : Nat} {a b : Addr} {as : List Addr} {ws : List Tr} (h : TrsAt H as ws) (ok : ∀ t, t ∈ ws → TrOk t) (w9 : ws.length ≤ 1000) (h1 : H a = some (.lst (as.map V.ref))) (h2 : H b = some (.lst (as.map V.ref))) : Eqv K H (n + 4) (.ref a) (.ref b) := by
  refine Eqv.lst h1 h2 rfl (by rw [List.length_map, h.1]; omega) fun i x y e1 e2 => ?_
  rw [e1] at e2
  cases e2
  obtain ⟨c, hc, rfl⟩ := map_getR e1
  obtain ⟨t, ht, hat⟩ := h.get hc
  exact hat.eqv (ok t (List.mem_of_getElem? ht))
theorem bls_take {bs : List Bool} {k : Nat} : (bls bs).take k = bls (bs.take k) := by unfold bls; rw [List.map_take]
def sp_law (K : PySem.W.Frag) : Sp := fun vs H Q _ => ∃ (a : Addr) (ns : List Int), vs = [.ref a] ∧ SqL K H a (ns.map V.int) ∧ ns.length ≤ 63 ∧ ∀ H', Q (.bl true) H'
theorem ok_law (T : Txt K mg) : FnOk P w K mg base CX0 10 T.a_law T.fd_law ["script"] (sp_law K) := by
  refine T.F_law.ok sc_law (fun vs H Q E h => ?_) (fun cdv A outer s H vs Q E hr h => ?_)
  · obtain ⟨a, ns, rfl, _⟩ := h
    rfl
  · obtain ⟨a, ns, rfl, hS, hl, q⟩ := h
    refine ⟨_, (pss_cons (ps_set (i := 1) sc_law.nd rfl (.inl rfl) (pe_lst (pa_cons (pe_call (ok_law_numbers T) (hr.mono (by decide)) (by rfl) T.g_law_numbers T.F_law_numbers.kp T.b_law_numbers .nil pass0 (pa_cons (pv 0) pa_nil)) (pa_cons pe_int pa_nil))))
      (pss_cons (ps_for PassesOwn.never rfl (pi_range1 (by rfl) T.m_range (pa_cons pe_int pa_nil)) (pg_name (i := 2) sc_law.nd rfl (Or.inl rfl))
      (pss_cons (ps_set (i := 3) sc_law.nd rfl (.inl rfl) (pe_lst pa_nil))
      (pss_cons (ps_for PassesOwn.never rfl (pi_range1 (by rfl) T.m_range (pa_cons (pe_op op_mod (pe_call (ok_law_draw T) (hr.mono (by decide)) (by rfl) T.g_law_draw T.F_law_draw.kp T.b_law_draw .nil pass0 (pa_cons (pv 1) pa_nil)) pe_int) pa_nil)) (pg_name (i := 4) sc_law.nd rfl (Or.inl rfl))
      (pss_one (ps_expr (pe_bm PySem.F.plainAttrs_list PySem.F.slot_list_append PySem.F.type_list_append mt_append (pv 3) (pa_cons (pe_tup (pa_cons (pe_op op_mod (pe_call (ok_law_draw T) (hr.mono (by decide)) (by rfl) T.g_law_draw T.F_law_draw.kp T.b_law_draw .nil pass0 (pa_cons (pv 1) pa_nil)) pe_int) (pa_cons (pe_call (ok_law_permutation T) (hr.mono (by decide)) (by rfl) T.g_law_permutation T.F_law_permutation.kp T.b_law_permutation .nil pass0 (pa_cons (pv 1) pa_nil)) (pa_cons (pe_call (ok_law_permutation T) (hr.mono (by decide)) (by rfl) T.g_law_permutation T.F_law_permutation.kp T.b_law_permutation .nil pass0 (pa_cons (pv 1) pa_nil)) pa_nil)))) pa_nil)))))
      (pss_cons (ps_set (i := 5) sc_law.nd rfl (.inl rfl) (pe_call (ok_law_bits T) (hr.mono (by decide)) (by rfl) T.g_law_bits T.F_law_bits.kp T.b_law_bits .nil pass0 (pa_cons (pv 1) pa_nil)))
      (pss_cons (ps_set (i := 6) sc_law.nd rfl (.inl rfl) (pe_callB (id := "max") (r := rMax K) (cr_max rfl) (by rfl) T.m_max (by decide +kernel) (pa_cons (pe_op op_cat (pe_lst (pa_cons pe_int pa_nil)) (pe_lc (own := [("triple", 10)]) (g := gName 10) (tt := tYes) rfl sc_law.nd (pi_list (pv 3)) (blkOk_by (N := N_law) (sc := defScope s_law) (by decide +kernel)) (fun _ _ _ _ _ => (pg_name (i := 10) sc_law.nd rfl (Or.inl rfl))) (fun _ _ _ _ _ => pts_nil) (fun _ _ _ _ _ => (pe_op op_add pe_int (pe_ix (r := rIxT K) ix_tup (pv 10) pe_int (fun _ _ => rfl)))))) pa_nil)))
      (Evl.pss_cut (ps_if (pt_cmpR op_eq (pe_op op_mod (pe_call (ok_law_draw T) (hr.mono (by decide)) (by rfl) T.g_law_draw T.F_law_draw.kp T.b_law_draw .nil pass0 (pa_cons (pv 1) pa_nil)) pe_int) pe_int (nomark _))
      (pss_one (ps_set (i := 5) sc_law.nd rfl (.inl rfl) (pe_slice (r := rSlL K) sl_list (pv 5) po_none (po_some (pv 6)))))
      pss_nil)
      (pss_cons (ps_for PassesOwn.never rfl (pi_range1 (by rfl) T.m_range (pa_cons pe_int pa_nil)) (pg_name (i := 7) sc_law.nd rfl (Or.inl rfl))
      (pss_one (ps_if (pt_not (pt_val (pe_call (ok_law_equal T 4) hr (by rfl) T.g_law_equal T.F_law_equal.kp T.b_law_equal .nil pass0 (pa_cons (pe_call (ok_effect T) (hr.mono (by decide)) (by rfl) T.g_effect T.F_effect.kp T.b_effect .nil passL (pa_cons (pe_callTy (T := "list") (r := rListOf K) cr_list_of (by rfl) T.m_list (by decide +kernel) (pa_cons (pv 3) pa_nil)) (pa_cons (pe_callTy (T := "list") (r := rListOf K) cr_list_of (by rfl) T.m_list (by decide +kernel) (pa_cons (pv 5) pa_nil)) (pa_cons (pv 7) pa_nil)))) (pa_cons (pe_call (ok_law_sent T) (hr.mono (by decide)) (by rfl) T.g_law_sent T.F_law_sent.kp T.b_law_sent .nil pass0 (pa_cons (pv 3) (pa_cons (pv 5) (pa_cons (pv 7) pa_nil)))) pa_nil)))))
      (pss_one (ps_ret pe_bl))
      pss_nil)))
      (Evl.pss_cut (ps_if (PW.pt (pw_and (pt_cmpR op_gt (pv 6) pe_int (nomark _)) (pw_and1 (pt_not (pt_val (pe_call (ok_law_lacks T) (hr.mono (by decide)) (by rfl) T.g_law_lacks T.F_law_lacks.kp T.b_law_lacks .nil pass0 (pa_cons (pe_callTy (T := "list") (r := rListOf K) cr_list_of (by rfl) T.m_list (by decide +kernel) (pa_cons (pv 3) pa_nil)) (pa_cons (pe_slice (r := rSlL K) sl_list (pv 5) po_none (po_some (pe_op op_sub (pv 6) pe_int))) pa_nil))))))))
      (pss_one (ps_ret pe_bl))
      pss_nil)
      (pss_cons (ps_set (i := 8) sc_law.nd rfl (.inl rfl) (pe_callTy (T := "list") (r := rListOf K) cr_list_of (by rfl) T.m_list (by decide +kernel) (pa_cons (pv 3) pa_nil)))
      (pss_cons (ps_set (i := 9) sc_law.nd rfl (.inl rfl) (pe_callTy (T := "list") (r := rListOf K) cr_list_of (by rfl) T.m_list (by decide +kernel) (pa_cons (pv 5) pa_nil)))
      (pss_cons (ps_expr (pe_call (ok_effect T) (hr.mono (by decide)) (by rfl) T.g_effect T.F_effect.kp T.b_effect .nil passL (pa_cons (pv 8) (pa_cons (pv 9) (pa_cons pe_int pa_nil)))))
      (pss_one (ps_if (PW.pt (pw_or (pt_not (pt_val (pe_call (ok_law_equal T 4) hr (by rfl) T.g_law_equal T.F_law_equal.kp T.b_law_equal .nil pass0 (pa_cons (pv 8) (pa_cons (pv 3) pa_nil))))) (pw_or1 (pt_not (pt_val (pe_call (ok_law_equal T 4) hr (by rfl) T.g_law_equal T.F_law_equal.kp T.b_law_equal .nil pass0 (pa_cons (pv 9) (pa_cons (pv 5) pa_nil))))))))
      (pss_one (ps_ret pe_bl))
      pss_nil)))))))))))))
      (pss_one (ps_ret pe_bl)))), ?_⟩
    walk_at "start"
    walk_at "x"
    refine ⟨a, ns, rfl, hS, hl, fun nn ms H1 hn1 hs1 hn2 hr hlen => ?_⟩
    walk_at "x"
    refine ⟨by show 2 ≤ sizeLine; decide, fun d hd => ?_⟩
    have hD := Dr.mk hn2 hr hlen hd
    generalize upd H1 d (.lst [.ref nn, .int 0]) = H2 at hD
    clear hn1 hs1 hn2 hr hlen hd hS hl
    walk_at "x"
    refine x_forR1 4 (fun i σ' H' => Dr H' d nn ∧ ∃ v2 v3 v4 v5 v6 v7 v8 v9 v10, σ' = [some (.ref a), some (.ref d), v2, v3, v4, v5, v6, v7, v8, v9, v10]) (fun R r => r) (by decide) (by decide) ⟨hD, _, _, _, _, _, _, _, _, _, rfl⟩ ?_ ?_
    · clear hD
      rintro turn σ' H3 _ ⟨hD, v2, v3, v4, v5, v6, v7, v8, v9, v10, rfl⟩
      walk_at "x"
      refine ⟨by show 0 ≤ sizeLine; decide, fun wa hwa0 => ?_⟩
      have hD4 := hD.upd0 (o := .lst []) hwa0
      have hwd := hD.new hwa0
      have hwn := hD.newN hwa0
      have hwa : (upd H3 wa (.lst [])) wa = some (.lst []) := upd_same
      generalize upd H3 wa (.lst []) = H4 at hD4 hwa
      clear hD hwa0
      walk_at "x"
      refine x_forPre ?_
      walk_at "x"
      refine ⟨d, nn, rfl, hD4, ?_⟩
      rintro _ H5 ⟨z, rfl, z0, z1⟩ hD5 k5
      have hwa5 := k5 _ _ hwa hwd
      clear hD4 k5 hwa
      walk_at "x"
      obtain ⟨N, eN, hN⟩ := cast_lt (x := z % 21) (c := 21) (Int.emod_nonneg z (by decide)) (Int.emod_lt_of_pos z (show (0 : Int) < 21 by decide))
      rw [eN]
      refine x_forR1 (N : Int) (fun k σ' H' => Dr H' d nn ∧ ∃ (v4 : Option V) (as : List Addr) (ws : List Tr), σ' = [some (.ref a), some (.ref d), some (.int (turn : Int)), some (.ref wa), v4, v5, v6, v7, v8, v9, v10] ∧ H' wa = some (.lst (as.map V.ref)) ∧ TrsAt H' as ws ∧ ws.length = k ∧ ∀ t, t ∈ ws → TrOk t) (fun R r => r) (by omega) (by omega) ⟨hD5, _, [], [], rfl, hwa5, ⟨rfl, fun i t b h _ => by simp at h⟩, rfl, fun t h => by simp at h⟩ ?_ ?_
      · clear hD5 hwa5
        rintro k σ' H6 hk ⟨hD6, v4, as, ws, rfl, hwa6, hW6, hwl, hok⟩
        walk_at "x"
        refine x_tyL hwa6 ?_
        walk_at "x"
        refine ⟨d, nn, rfl, hD6, ?_⟩
        rintro _ H7 ⟨y, rfl, y0, y1⟩ hD7 k7
        have hwa7 := k7 _ _ hwa6 hwd
        have hW7 := hW6.tups (keep_tupsG k7 hD6)
        clear hwa6 hW6 k7 hD6
        walk_at "x"
        obtain ⟨b, eb, hb⟩ := cast_lt (x := y % 60) (c := 60) (Int.emod_nonneg y (by decide)) (Int.emod_lt_of_pos y (show (0 : Int) < 60 by decide))
        rw [eb]
        refine ⟨d, nn, rfl, hD7, ?_⟩
        rintro _ H8 ⟨pz, zp, rfl, hpz, okz⟩ hD8 k8
        have hwa8 := k8 _ _ hwa7 hwd
        have hW8 := hW7.tups (keep_tupsG k8 hD7)
        clear hwa7 hW7 k8 hD7
        walk_at "x"
        refine ⟨d, nn, rfl, hD8, ?_⟩
        rintro _ H9 ⟨po, op, rfl, hpo, oko⟩ hD9 k9
        have hwa9 := k9 _ _ hwa8 hwd
        have hW9 := hW8.tups (keep_tupsG k9 hD8)
        have hpz9 := keep_tupsG k9 hD8 _ _ hpz
        clear hwa8 hW8 k9 hD8 hpz
        walk_at "x"
        refine ⟨by show 3 ≤ sizeLine; decide, fun r hr => ?_⟩
        have sA := same_upd (o := .tup [.int (b : Int), .ref pz, .ref po]) hr
        have eA : (upd H9 r (.tup [.int (b : Int), .ref pz, .ref po])) r = _ := upd_same
        have hDA := hD9.same sA
        generalize upd H9 r (.tup [.int (b : Int), .ref pz, .ref po]) = HA at sA eA hDA
        have hwaA := sA _ _ hwa9
        walk_at "x"
        refine x_app hwaA (by rw [List.length_map, hW9.1]; omega) ?_
        have hT : ∀ c xs, HA c = some (.tup xs) → (upd HA wa (.lst (as.map V.ref ++ [.ref r]))) c = some (.tup xs) := fun c xs e => by rw [upd_ne (ne_of e hwaA (by intro z; cases z))]; exact e
        walk_at "x"
        refine ⟨hDA.upd hwd hwn, _, as ++ [r], ws ++ [(b, zp, op)], rfl, by rw [upd_same, List.map_append]; rfl, (hW9.tups fun c xs e => hT c xs (sA _ _ e)).snoc ⟨pz, po, hT _ _ eA, hT _ _ (sA _ _ hpz9), hT _ _ (sA _ _ hpo)⟩, by rw [List.length_append, hwl]; rfl, fun t ht => ?_⟩
        rcases List.mem_append.mp ht with ht | ht
        · exact hok t ht
        · rw [List.mem_singleton.mp ht]; exact ⟨hb, okz, oko⟩
      clear hD5 hwa5
      rintro σ' H6 ⟨hD6, v4, as, ws, rfl, hwa6, hW6, hwl, hok⟩
      have hwl : ws.length ≤ 20 := by omega
      have hn60 := needW_60 hok
      walk_at "x"
      refine ⟨d, nn, rfl, hD6, ?_⟩
      rintro _ H7 ⟨bo, bits, rfl, hbd, hbn, _, hbo, hbl⟩ hD7 k7
      have hwa7 := k7 _ _ hwa6 hwd
      have hW7 := hW6.tups (keep_tupsG k7 hD6)
      clear hwa6 hW6 k7 hD6
      walk_at "x"
      -- many = max([0] + [1 + triple[0] for triple in word])
      refine ⟨by show 1 ≤ sizeLine; decide, fun u hu => ?_⟩
      have s8 := same_upd (o := .lst [.int 0]) hu
      have e8 : (upd H7 u (.lst [.int 0])) u = some (.lst (([0] : List Int).map V.int)) := upd_same
      generalize upd H7 u (.lst [.int 0]) = H8 at s8 e8
      have hal : (as.map V.ref).length = ws.length := by rw [List.length_map, hW7.1]
      refine x_lcV (xs := as.map V.ref) (fun i => .int (1 + ((ws.getD i (0, [], [])).1 : Int))) (J := Itl K wa) (G := fun H => SqL K H wa (as.map V.ref)) (fun R r => ⟨_, rfl, wa, rfl, ⟨_, sq_of (s8 _ _ hwa7)⟩, r⟩) walk_list (by omega) (fun H' s => sq_of (s _ _ (s8 _ _ hwa7))) (fun x => rfl) ?_ ?_
      · intro i x H' s hx R hR
        obtain ⟨c, hc, rfl⟩ := map_getR hx
        obtain ⟨t, ht, z, o, h1, h2, h3⟩ := hW7.get hc
        rw [getDT ht] at hR
        walk_at "x"
        refine x_ixT (v := .int (t.1 : Int)) (st_of (s _ _ (s8 _ _ h1))) (atI_nat (j := 0) rfl) ?_
        walk_at "x"
        exact hR H' (Same.refl _)
      intro p H9 hp s9 hP
      rw [hal, range_map (f := fun t : Tr => V.int (1 + (t.1 : Int)))] at hP
      have e : (ws.map fun t : Tr => V.int (1 + (t.1 : Int))) = (ws.map fun t => (1 + (t.1 : Int))).map V.int := by rw [List.map_map]; rfl
      rw [e] at hP
      have e9 := s9 _ _ e8
      have s9 := s8.trans s9
      walk_at "x"
      refine x_cat e9 hP (by rw [List.length_map, List.length_map, List.length_map]; show 1 + ws.length ≤ 1000000; omega) fun r hr => ?_
      have sA := s9.trans (same_upd (o := .lst (([0] : List Int).map V.int ++ (ws.map fun t => (1 + (t.1 : Int))).map V.int)) hr)
      have eA : (upd H9 r (.lst (([0] : List Int).map V.int ++ (ws.map fun t => (1 + (t.1 : Int))).map V.int))) r = _ := upd_same
      generalize upd H9 r (.lst (([0] : List Int).map V.int ++ (ws.map fun t => (1 + (t.1 : Int))).map V.int)) = HA at sA eA
      rw [← List.map_append] at eA
      walk_at "x"
      refine ⟨r, _, rfl, sq_of eA, by simp, fun m hm hle => ?_⟩
      have hm : m = ((needW ws : Nat) : Int) := by
        have c : ∀ t : Tr, (1 + (t.1 : Int)) = (t.1 : Int) + 1 := fun t => by omega
        have c2 : (ws.map fun t => (1 + (t.1 : Int))) = ws.map fun t => ((t.1 : Int) + 1) := List.map_congr_left fun t _ => c t
        rw [c2] at hm hle
        rcases List.mem_append.mp hm with h0 | h0
        · have e0 : m = 0 := by simpa using h0
          subst e0
          have hno : ws = [] := by
            cases ws with
            | nil => rfl
            | cons t ws =>
              have := hle ((t.1 : Int) + 1) (List.mem_append.mpr (.inr (by simp)))
              omega
          exact needW_max (.inl ⟨hno, rfl⟩)
        · exact needW_max (.inr ⟨h0, fun y hy => hle y (List.mem_append.mpr (.inr hy))⟩)
      subst hm
      clear hle hP e9 eA s8 e8
      have hDA := hD7.same sA
      have hwaA := sA _ _ hwa7
      have hWA := hW7.tups fun b xs e => sA _ _ e
      have hboA := sA _ _ hbo
      clear hD7 hwa7 hW7 hbo sA s9 hr hp hu
      walk_at "x"
      -- perhaps cut to what the word needs
      refine x_cut (fun σ' H' => ∃ (bo : Addr) (bits : List Bool), [some (V.ref a), some (.ref d), some (.int (turn : Int)), some (.ref wa), v4, some (.ref bo), some (.int ((needW ws : Nat) : Int)), v7, v8, v9, v10] = σ' ∧ Dr H' d nn ∧ bo ≠ d ∧ H' wa = some (.lst (as.map V.ref)) ∧ TrsAt H' as ws ∧ H' bo = some (.lst (bls bits)) ∧ needW ws ≤ bits.length ∧ bits.length ≤ 60) ?_ ?_
      · walk_at "x"
        refine ⟨d, nn, rfl, hDA, ?_⟩
        rintro _ HB ⟨y, rfl, y0, y1⟩ hDB kB
        have hwaB := kB _ _ hwaA hwd
        have hWB := hWA.tups (keep_tupsG kB hDA)
        have hboB := kB _ _ hboA hbd
        walk_at "x"
        refine x_ite (fun hy => ?_) (fun hy => ?_)
        · walk_at "x"
          refine x_sl2 ?_
          walk_at "x"
          refine x_part0 ?_
          refine x_part1 ?_
          walk_at "x"
          refine ⟨_, rfl, ?_⟩
          refine x_cutL (sq_of hboB) fun r hr => ?_
          rw [cutV_to (by rw [bls_len]; omega), bls_take]
          have sC := same_upd (o := .lst (bls (bits.take (needW ws)))) hr
          walk_at "x"
          exact ⟨r, _, rfl, hDB.same sC, hDB.new hr, sC _ _ hwaB, hWB.tups (fun b xs e => sC _ _ e), upd_same, by rw [List.length_take]; omega, by rw [List.length_take]; omega⟩
        · walk_at "x"
          exact ⟨bo, bits, rfl, hDB, hbd, hwaB, hWB, hboB, by omega, by omega⟩
      clear hDA hwaA hWA hboA hbd hbn hbl
      rintro _ HB ⟨bo, bits, rfl, hDB, hbd, hwaB, hWB, hboB, hn, hbl⟩
      have hb9 : bits.length ≤ 1000 := by omega
      refine x_forR1 5 (fun k σ' H' => ∃ v7, Same HB H' ∧ σ' = [some (.ref a), some (.ref d), some (.int (turn : Int)), some (.ref wa), v4, some (.ref bo), some (.int ((needW ws : Nat) : Int)), v7, v8, v9, v10]) (fun R r => r) (by decide) (by decide) ⟨_, Same.refl _, rfl⟩ ?_ ?_
      · rintro k σ' HC hk ⟨v7, sC, rfl⟩
        have hDC := hDB.same sC
        have hwaC := sC _ _ hwaB
        have hboC := sC _ _ hboB
        have hWC := hWB.tups fun b xs e => sC _ _ e
        walk_at "x"
        refine x_listL (sq_of hwaC) fun w2 hw2 => ?_
        have hw2d := hDC.new hw2
        have sD := same_upd (o := .lst (as.map V.ref)) hw2
        have eD : (upd HC w2 (.lst (as.map V.ref))) w2 = _ := upd_same
        generalize upd HC w2 (.lst (as.map V.ref)) = HD at sD eD
        walk_at "x"
        refine x_listL (sq_of (sD _ _ hboC)) fun b2 hb2 => ?_
        have hb2d := (hDC.same sD).new hb2
        have sE := sD.trans (same_upd (o := .lst (bls bits)) hb2)
        have eE := same_upd (o := .lst (bls bits)) hb2 _ _ eD
        have eE2 : (upd HD b2 (.lst (bls bits))) b2 = _ := upd_same
        generalize upd HD b2 (.lst (bls bits)) = HE at sE eE eE2
        have hWE := hWC.tups fun b xs e => sE _ _ e
        walk_at "x"
        refine effect_ok hw2d hb2d eE hWE hok (by omega) eE2 hn hb9 (by omega) fun HF sF => ?_
        have sF := sE.trans sF
        walk_at "x"
        refine ⟨wa, bo, as, ws, bits, k, rfl, sF _ _ hwaC, hWC.tups (fun b xs e => sF _ _ e), hok, sF _ _ hboC, hn, by omega, ?_⟩
        walk_at "x"
        refine ⟨_, _, rfl, Eqv.int (n := 3), ?_⟩
        walk_at "x"
        walk_at "f"
        exact ⟨_, sC.trans sF, rfl⟩
      rintro σ' HC ⟨v7, sC, rfl⟩
      have hDC := hDB.same sC
      have hwaC := sC _ _ hwaB
      have hboC := sC _ _ hboB
      have hWC := hWB.tups fun b xs e => sC _ _ e
      clear hDB hwaB hboB hWB sC
      walk_at "x"
      refine x_cut (fun σ' H' => Same HC H' ∧ [some (V.ref a), some (.ref d), some (.int (turn : Int)), some (.ref wa), v4, some (.ref bo), some (.int ((needW ws : Nat) : Int)), v7, v8, v9, v10] = σ') ?_ ?_
      · walk_at "x"
        refine x_ite (fun h0 => ?_) (fun h0 => ?_)
        · walk_at "x"
          refine x_listL (sq_of hwaC) fun w2 hw2 => ?_
          have hw2d := hDC.new hw2
          have sD := same_upd (o := .lst (as.map V.ref)) hw2
          have eD : (upd HC w2 (.lst (as.map V.ref))) w2 = _ := upd_same
          generalize upd HC w2 (.lst (as.map V.ref)) = HD at sD eD
          walk_at "x"
          refine x_sl2 ?_
          walk_at "x"
          refine x_part0 ?_
          refine x_part1 ?_
          walk_at "x"
          refine ⟨_, rfl, ?_⟩
          refine x_cutL (sq_of (sD _ _ hboC)) fun r hr => ?_
          rw [show ((needW ws : Nat) : Int) - 1 = ((needW ws - 1 : Nat) : Int) by omega, cutV_to (by rw [bls_len]; omega), bls_take]
          have hrd := (hDC.same sD).new hr
          have sE := sD.trans (same_upd (o := .lst (bls (bits.take (needW ws - 1)))) hr)
          have eE := same_upd (o := .lst (bls (bits.take (needW ws - 1)))) hr _ _ eD
          have eE2 : (upd HD r (.lst (bls (bits.take (needW ws - 1))))) r = _ := upd_same
          generalize upd HD r (.lst (bls (bits.take (needW ws - 1)))) = HE at sE eE eE2
          walk_at "x"
          refine ⟨d, w2, r, as, ws, _, rfl, hw2d, hrd, eE, hWC.tups (fun b xs e => sE _ _ e), hok, by omega, eE2, by rw [List.length_take]; omega, by rw [List.length_take]; omega, fun HF sF => ?_⟩
          walk_at "x"
          walk_at "f"
          exact ⟨sE.trans sF, rfl⟩
        · walk_at "f"
          exact ⟨Same.refl _, rfl⟩
      rintro _ HF ⟨sF, rfl⟩
      have hDF := hDC.same sF
      have hwaF := sF _ _ hwaC
      have hboF := sF _ _ hboC
      have hWF := hWC.tups fun b xs e => sF _ _ e
      clear hDC hwaC hboC hWC sF
      walk_at "x"
      refine x_listL (sq_of hwaF) fun w2 hw2 => ?_
      have hw2d := hDF.new hw2
      have sD := same_upd (o := .lst (as.map V.ref)) hw2
      have eD : (upd HF w2 (.lst (as.map V.ref))) w2 = _ := upd_same
      generalize upd HF w2 (.lst (as.map V.ref)) = HD at sD eD
      walk_at "x"
      refine x_listL (sq_of (sD _ _ hboF)) fun b2 hb2 => ?_
      have hb2d := (hDF.same sD).new hb2
      have sE := sD.trans (same_upd (o := .lst (bls bits)) hb2)
      have eE := same_upd (o := .lst (bls bits)) hb2 _ _ eD
      have eE2 : (upd HD b2 (.lst (bls bits))) b2 = _ := upd_same
      generalize upd HD b2 (.lst (bls bits)) = HE at sE eE eE2
      have hWE := hWF.tups fun b xs e => sE _ _ e
      walk_at "x"
      refine effect_ok (p := 2) hw2d hb2d eE hWE hok (by omega) eE2 hn hb9 (by omega) fun HG sG => ?_
      have sH := sE.trans sG
      walk_at "x"
      refine ⟨_, _, rfl, (hWF.tups fun b xs e => sH _ _ e).eqv (n := 0) hok (by omega) (sG _ _ eE) (sH _ _ hwaF), ?_⟩
      walk_at "x"
      walk_at "f"
      refine ⟨_, _, rfl, Eqv.bls (n := 2) (sG _ _ eE2) (sH _ _ hboF) (by omega), ?_⟩
      walk_at "x"
      walk_at "f"
      exact ⟨hDF.same sH, _, _, _, _, _, _, _, _, _, rfl⟩
    · rintro σ' H3 ⟨hD, v2, v3, v4, v5, v6, v7, v8, v9, v10, rfl⟩
      walk_at "x"
      exact q H3
theorem all_mk {l : PySem.W.OpenLaw} {w : World} {K : PySem.W.Frag} {h : Heap} {mg : Str → Option Value} {fa : Addr} (X : K.In h) (G : h.Ns mainGlobals mg) (hfa : mg "law" = some (.ref fa))
    {f0 : Addr} {od0 an0 : Option Addr} {sl0 : Array (Option Value)} {oc0 kV0 dc0 pm0 cd0 ct0 : Value}
    {f1 : Addr} {od1 an1 : Option Addr} {sl1 : Array (Option Value)} {oc1 kV1 dc1 pm1 cd1 ct1 : Value}
    {f2 : Addr} {od2 an2 : Option Addr} {sl2 : Array (Option Value)} {oc2 kV2 dc2 pm2 cd2 ct2 : Value}
    {f3 : Addr} {od3 an3 : Option Addr} {sl3 : Array (Option Value)} {oc3 kV3 dc3 pm3 cd3 ct3 : Value}
    {f4 : Addr} {od4 an4 : Option Addr} {sl4 : Array (Option Value)} {oc4 kV4 dc4 pm4 cd4 ct4 : Value}
    {f5 : Addr} {od5 an5 : Option Addr} {sl5 : Array (Option Value)} {oc5 kV5 dc5 pm5 cd5 ct5 : Value}
    {f6 : Addr} {od6 an6 : Option Addr} {sl6 : Array (Option Value)} {oc6 kV6 dc6 pm6 cd6 ct6 : Value}
    {f7 : Addr} {od7 an7 : Option Addr} {sl7 : Array (Option Value)} {oc7 kV7 dc7 pm7 cd7 ct7 : Value}
    {f8 : Addr} {od8 an8 : Option Addr} {sl8 : Array (Option Value)} {oc8 kV8 dc8 pm8 cd8 ct8 : Value}
    {f9 : Addr} {od9 an9 : Option Addr} {sl9 : Array (Option Value)} {oc9 kV9 dc9 pm9 cd9 ct9 : Value}
    {f10 : Addr} {od10 an10 : Option Addr} {sl10 : Array (Option Value)} {oc10 kV10 dc10 pm10 cd10 ct10 : Value}
    {f11 : Addr} {od11 an11 : Option Addr} {sl11 : Array (Option Value)} {oc11 kV11 dc11 pm11 cd11 ct11 : Value}
    {f12 : Addr} {od12 an12 : Option Addr} {sl12 : Array (Option Value)} {oc12 kV12 dc12 pm12 cd12 ct12 : Value}
    {f13 : Addr} {od13 an13 : Option Addr} {sl13 : Array (Option Value)} {oc13 kV13 dc13 pm13 cd13 ct13 : Value}
    {f14 : Addr} {od14 an14 : Option Addr} {sl14 : Array (Option Value)} {oc14 kV14 dc14 pm14 cd14 ct14 : Value}
    {f15 : Addr} {od15 an15 : Option Addr} {sl15 : Array (Option Value)} {oc15 kV15 dc15 pm15 cd15 ct15 : Value}
    {f16 : Addr} {od16 an16 : Option Addr} {sl16 : Array (Option Value)} {oc16 kV16 dc16 pm16 cd16 ct16 : Value}
    {E_BrimfulError : Addr}
    {E_BadMemory : Addr}
    {E_BadWord : Addr}
    {t_MOST_INPUTS : Tok}
    {t_MOST_TRIPLES : Tok}
    {t_POINTS : Tok}
    (hnE : PySem.W.specialIn K (.builtin "object.__class__") "__get__" = some (some (.builtin "getset_descriptor.__get__"))) (htE : PySem.W.takesIn K (.builtin "object.__class__") = some true)
    (aE_BrimfulError : PySem.W.nsIn K mainGlobals "BrimfulError" = some (some (.ref E_BrimfulError))) (xE_BrimfulError : PySem.W.excIn K E_BrimfulError [.type "ValueError", .type "Exception", .type "BaseException", .type "object"] "ValueError.__new__" = true) (kE_BrimfulError : PySem.W.keepIn K (.ref E_BrimfulError) = true)
    (bE_BrimfulError : PySem.W.subIn K (.ref E_BrimfulError) (.type "BaseException") = some true) (tE_BrimfulError : PySem.W.typeIn K (.ref E_BrimfulError) = some (.type "type")) (dE_BrimfulError : PySem.W.hasDictIn K E_BrimfulError = true)
    (h1E_BrimfulError : PySem.W.findIn K (.ref E_BrimfulError) "__getattribute__" = some (some (.builtin "BaseException.__getattribute__"))) (h2E_BrimfulError : PySem.W.findIn K (.ref E_BrimfulError) "__getattr__" = some none) (h3E_BrimfulError : PySem.W.findIn K (.ref E_BrimfulError) "__class__" = some (some (.builtin "object.__class__"))) (h4E_BrimfulError : PySem.W.mroIn K E_BrimfulError (.type "object") = some true)
    (aE_BadMemory : PySem.W.nsIn K mainGlobals "BadMemory" = some (some (.ref E_BadMemory))) (xE_BadMemory : PySem.W.excIn K E_BadMemory [.type "ValueError", .type "Exception", .type "BaseException", .type "object"] "ValueError.__new__" = true) (kE_BadMemory : PySem.W.keepIn K (.ref E_BadMemory) = true)
    (bE_BadMemory : PySem.W.subIn K (.ref E_BadMemory) (.type "BaseException") = some true) (tE_BadMemory : PySem.W.typeIn K (.ref E_BadMemory) = some (.type "type")) (dE_BadMemory : PySem.W.hasDictIn K E_BadMemory = true)
    (h1E_BadMemory : PySem.W.findIn K (.ref E_BadMemory) "__getattribute__" = some (some (.builtin "BaseException.__getattribute__"))) (h2E_BadMemory : PySem.W.findIn K (.ref E_BadMemory) "__getattr__" = some none) (h3E_BadMemory : PySem.W.findIn K (.ref E_BadMemory) "__class__" = some (some (.builtin "object.__class__"))) (h4E_BadMemory : PySem.W.mroIn K E_BadMemory (.type "object") = some true)
    (aE_BadWord : PySem.W.nsIn K mainGlobals "BadWord" = some (some (.ref E_BadWord))) (xE_BadWord : PySem.W.excIn K E_BadWord [.type "ValueError", .type "Exception", .type "BaseException", .type "object"] "ValueError.__new__" = true) (kE_BadWord : PySem.W.keepIn K (.ref E_BadWord) = true)
    (bE_BadWord : PySem.W.subIn K (.ref E_BadWord) (.type "BaseException") = some true) (tE_BadWord : PySem.W.typeIn K (.ref E_BadWord) = some (.type "type")) (dE_BadWord : PySem.W.hasDictIn K E_BadWord = true)
    (h1E_BadWord : PySem.W.findIn K (.ref E_BadWord) "__getattribute__" = some (some (.builtin "BaseException.__getattribute__"))) (h2E_BadWord : PySem.W.findIn K (.ref E_BadWord) "__getattr__" = some none) (h3E_BadWord : PySem.W.findIn K (.ref E_BadWord) "__class__" = some (some (.builtin "object.__class__"))) (h4E_BadWord : PySem.W.mroIn K E_BadWord (.type "object") = some true)
    (sE_BrimfulError_BrimfulError : PySem.W.subIn K (.ref E_BrimfulError) (.ref E_BrimfulError) = some true)
    (sE_BrimfulError_BadMemory : PySem.W.subIn K (.ref E_BrimfulError) (.ref E_BadMemory) = some false)
    (sE_BrimfulError_BadWord : PySem.W.subIn K (.ref E_BrimfulError) (.ref E_BadWord) = some false)
    (sE_BadMemory_BrimfulError : PySem.W.subIn K (.ref E_BadMemory) (.ref E_BrimfulError) = some true)
    (sE_BadMemory_BadMemory : PySem.W.subIn K (.ref E_BadMemory) (.ref E_BadMemory) = some true)
    (sE_BadMemory_BadWord : PySem.W.subIn K (.ref E_BadMemory) (.ref E_BadWord) = some false)
    (sE_BadWord_BrimfulError : PySem.W.subIn K (.ref E_BadWord) (.ref E_BrimfulError) = some true)
    (sE_BadWord_BadMemory : PySem.W.subIn K (.ref E_BadWord) (.ref E_BadMemory) = some false)
    (sE_BadWord_BadWord : PySem.W.subIn K (.ref E_BadWord) (.ref E_BadWord) = some true)
    (a0 : PySem.W.nsIn K mainGlobals "are_bits" = some (some (.ref f0)))
    (l0 : K.lookup f0 = some ⟨oc0, od0, .func (PySem.W.fnOf "are_bits" "are_bits" (defArgs s_are_bits) (defBody s_are_bits) (defScope s_are_bits) .none kV0 dc0 pm0 an0 cd0 ct0), sl0⟩)
    (c0 : PySem.W.codeIn K cd0 "are_bits" = true) (k0 : PySem.W.keepIn K (.ref f0) = true)
    (a1 : PySem.W.nsIn K mainGlobals "is_below" = some (some (.ref f1)))
    (l1 : K.lookup f1 = some ⟨oc1, od1, .func (PySem.W.fnOf "is_below" "is_below" (defArgs s_is_below) (defBody s_is_below) (defScope s_is_below) .none kV1 dc1 pm1 an1 cd1 ct1), sl1⟩)
    (c1 : PySem.W.codeIn K cd1 "is_below" = true) (k1 : PySem.W.keepIn K (.ref f1) = true)
    (a2 : PySem.W.nsIn K mainGlobals "is_permutation" = some (some (.ref f2)))
    (l2 : K.lookup f2 = some ⟨oc2, od2, .func (PySem.W.fnOf "is_permutation" "is_permutation" (defArgs s_is_permutation) (defBody s_is_permutation) (defScope s_is_permutation) .none kV2 dc2 pm2 an2 cd2 ct2), sl2⟩)
    (c2 : PySem.W.codeIn K cd2 "is_permutation" = true) (k2 : PySem.W.keepIn K (.ref f2) = true)
    (a3 : PySem.W.nsIn K mainGlobals "is_input" = some (some (.ref f3)))
    (l3 : K.lookup f3 = some ⟨oc3, od3, .func (PySem.W.fnOf "is_input" "is_input" (defArgs s_is_input) (defBody s_is_input) (defScope s_is_input) .none kV3 dc3 pm3 an3 cd3 ct3), sl3⟩)
    (c3 : PySem.W.codeIn K cd3 "is_input" = true) (k3 : PySem.W.keepIn K (.ref f3) = true)
    (a4 : PySem.W.nsIn K mainGlobals "effect" = some (some (.ref f4)))
    (l4 : K.lookup f4 = some ⟨oc4, od4, .func (PySem.W.fnOf "effect" "effect" (defArgs s_effect) (defBody s_effect) (defScope s_effect) .none kV4 dc4 pm4 an4 cd4 ct4), sl4⟩)
    (c4 : PySem.W.codeIn K cd4 "effect" = true) (k4 : PySem.W.keepIn K (.ref f4) = true)
    (a5 : PySem.W.nsIn K mainGlobals "_is_word" = some (some (.ref f5)))
    (l5 : K.lookup f5 = some ⟨oc5, od5, .func (PySem.W.fnOf "_is_word" "_is_word" (defArgs s_is_word) (defBody s_is_word) (defScope s_is_word) .none kV5 dc5 pm5 an5 cd5 ct5), sl5⟩)
    (c5 : PySem.W.codeIn K cd5 "_is_word" = true) (k5 : PySem.W.keepIn K (.ref f5) = true)
    (a6 : PySem.W.nsIn K mainGlobals "_is_triple" = some (some (.ref f6)))
    (l6 : K.lookup f6 = some ⟨oc6, od6, .func (PySem.W.fnOf "_is_triple" "_is_triple" (defArgs s_is_triple) (defBody s_is_triple) (defScope s_is_triple) .none kV6 dc6 pm6 an6 cd6 ct6), sl6⟩)
    (c6 : PySem.W.codeIn K cd6 "_is_triple" = true) (k6 : PySem.W.keepIn K (.ref f6) = true)
    (a7 : PySem.W.nsIn K mainGlobals "_law_mixed" = some (some (.ref f7)))
    (l7 : K.lookup f7 = some ⟨oc7, od7, .func (PySem.W.fnOf "_law_mixed" "_law_mixed" (defArgs s_law_mixed) (defBody s_law_mixed) (defScope s_law_mixed) .none kV7 dc7 pm7 an7 cd7 ct7), sl7⟩)
    (c7 : PySem.W.codeIn K cd7 "_law_mixed" = true) (k7 : PySem.W.keepIn K (.ref f7) = true)
    (a8 : PySem.W.nsIn K mainGlobals "_law_numbers" = some (some (.ref f8)))
    (l8 : K.lookup f8 = some ⟨oc8, od8, .func (PySem.W.fnOf "_law_numbers" "_law_numbers" (defArgs s_law_numbers) (defBody s_law_numbers) (defScope s_law_numbers) .none kV8 dc8 pm8 an8 cd8 ct8), sl8⟩)
    (c8 : PySem.W.codeIn K cd8 "_law_numbers" = true) (k8 : PySem.W.keepIn K (.ref f8) = true)
    (a9 : PySem.W.nsIn K mainGlobals "_law_draw" = some (some (.ref f9)))
    (l9 : K.lookup f9 = some ⟨oc9, od9, .func (PySem.W.fnOf "_law_draw" "_law_draw" (defArgs s_law_draw) (defBody s_law_draw) (defScope s_law_draw) .none kV9 dc9 pm9 an9 cd9 ct9), sl9⟩)
    (c9 : PySem.W.codeIn K cd9 "_law_draw" = true) (k9 : PySem.W.keepIn K (.ref f9) = true)
    (a10 : PySem.W.nsIn K mainGlobals "_law_equal" = some (some (.ref f10)))
    (l10 : K.lookup f10 = some ⟨oc10, od10, .func (PySem.W.fnOf "_law_equal" "_law_equal" (defArgs s_law_equal) (defBody s_law_equal) (defScope s_law_equal) .none kV10 dc10 pm10 an10 cd10 ct10), sl10⟩)
    (c10 : PySem.W.codeIn K cd10 "_law_equal" = true) (k10 : PySem.W.keepIn K (.ref f10) = true)
    (a11 : PySem.W.nsIn K mainGlobals "_law_all_equal" = some (some (.ref f11)))
    (l11 : K.lookup f11 = some ⟨oc11, od11, .func (PySem.W.fnOf "_law_all_equal" "_law_all_equal" (defArgs s_law_all_equal) (defBody s_law_all_equal) (defScope s_law_all_equal) .none kV11 dc11 pm11 an11 cd11 ct11), sl11⟩)
    (c11 : PySem.W.codeIn K cd11 "_law_all_equal" = true) (k11 : PySem.W.keepIn K (.ref f11) = true)
    (a12 : PySem.W.nsIn K mainGlobals "_law_bits" = some (some (.ref f12)))
    (l12 : K.lookup f12 = some ⟨oc12, od12, .func (PySem.W.fnOf "_law_bits" "_law_bits" (defArgs s_law_bits) (defBody s_law_bits) (defScope s_law_bits) .none kV12 dc12 pm12 an12 cd12 ct12), sl12⟩)
    (c12 : PySem.W.codeIn K cd12 "_law_bits" = true) (k12 : PySem.W.keepIn K (.ref f12) = true)
    (a13 : PySem.W.nsIn K mainGlobals "_law_permutation" = some (some (.ref f13)))
    (l13 : K.lookup f13 = some ⟨oc13, od13, .func (PySem.W.fnOf "_law_permutation" "_law_permutation" (defArgs s_law_permutation) (defBody s_law_permutation) (defScope s_law_permutation) .none kV13 dc13 pm13 an13 cd13 ct13), sl13⟩)
    (c13 : PySem.W.codeIn K cd13 "_law_permutation" = true) (k13 : PySem.W.keepIn K (.ref f13) = true)
    (a14 : PySem.W.nsIn K mainGlobals "_law_sent" = some (some (.ref f14)))
    (l14 : K.lookup f14 = some ⟨oc14, od14, .func (PySem.W.fnOf "_law_sent" "_law_sent" (defArgs s_law_sent) (defBody s_law_sent) (defScope s_law_sent) .none kV14 dc14 pm14 an14 cd14 ct14), sl14⟩)
    (c14 : PySem.W.codeIn K cd14 "_law_sent" = true) (k14 : PySem.W.keepIn K (.ref f14) = true)
    (a15 : PySem.W.nsIn K mainGlobals "_law_lacks" = some (some (.ref f15)))
    (l15 : K.lookup f15 = some ⟨oc15, od15, .func (PySem.W.fnOf "_law_lacks" "_law_lacks" (defArgs s_law_lacks) (defBody s_law_lacks) (defScope s_law_lacks) .none kV15 dc15 pm15 an15 cd15 ct15), sl15⟩)
    (c15 : PySem.W.codeIn K cd15 "_law_lacks" = true) (k15 : PySem.W.keepIn K (.ref f15) = true)
    (a16 : PySem.W.nsIn K mainGlobals "law" = some (some (.ref f16)))
    (l16 : K.lookup f16 = some ⟨oc16, od16, .func (PySem.W.fnOf "law" "law" (defArgs s_law) (defBody s_law) (defScope s_law) .none kV16 dc16 pm16 an16 cd16 ct16), sl16⟩)
    (c16 : PySem.W.codeIn K cd16 "law" = true) (k16 : PySem.W.keepIn K (.ref f16) = true)
    (z_all : PySem.W.nsIn K mainGlobals "all" = some none)
    (z_bool : PySem.W.nsIn K mainGlobals "bool" = some none)
    (z_int : PySem.W.nsIn K mainGlobals "int" = some none)
    (z_isinstance : PySem.W.nsIn K mainGlobals "isinstance" = some none)
    (z_len : PySem.W.nsIn K mainGlobals "len" = some none)
    (z_list : PySem.W.nsIn K mainGlobals "list" = some none)
    (z_max : PySem.W.nsIn K mainGlobals "max" = some none)
    (z_range : PySem.W.nsIn K mainGlobals "range" = some none)
    (z_set : PySem.W.nsIn K mainGlobals "set" = some none)
    (z_str : PySem.W.nsIn K mainGlobals "str" = some none)
    (z_tuple : PySem.W.nsIn K mainGlobals "tuple" = some none)
    (z_MOST_INPUTS : PySem.W.nsIn K mainGlobals "MOST_INPUTS" = some (some (.int 60 t_MOST_INPUTS)))
    (z_MOST_TRIPLES : PySem.W.nsIn K mainGlobals "MOST_TRIPLES" = some (some (.int 20000 t_MOST_TRIPLES)))
    (z_POINTS : PySem.W.nsIn K mainGlobals "POINTS" = some (some (.int 5 t_POINTS)))
    : ∃ fd : FuncData, (∀ (s : Shared) (v : Value), BindsTo s fd ⟨[v], []⟩ [("script", v)]) ∧ ∀ base : Heap, K.In base → base.Ns mainGlobals mg → FnOk l.prog w K mg base CX0 10 fa fd ["script"] (sp_law K) := by
  have e := hfa.symm.trans (PySem.W.mg_of X G a16)
  cases e
  have F0 := fun_mk (st := s_are_bits) l0 c0 k0
  have b0 := F0.binds (ps := ["values", "least"]) fun _ _ _ _ _ _ us hl => match us, hl with | [_, _], _ => rfl
  have F1 := fun_mk (st := s_is_below) l1 c1 k1
  have b1 := F1.binds (ps := ["value", "bound"]) fun _ _ _ _ _ _ us hl => match us, hl with | [_, _], _ => rfl
  have F2 := fun_mk (st := s_is_permutation) l2 c2 k2
  have b2 := F2.binds (ps := ["value"]) fun _ _ _ _ _ _ us hl => match us, hl with | [_], _ => rfl
  have F3 := fun_mk (st := s_is_input) l3 c3 k3
  have b3 := F3.binds (ps := ["k"]) fun _ _ _ _ _ _ us hl => match us, hl with | [_], _ => rfl
  have F4 := fun_mk (st := s_effect) l4 c4 k4
  have b4 := F4.binds (ps := ["word", "bits", "point"]) fun _ _ _ _ _ _ us hl => match us, hl with | [_, _, _], _ => rfl
  have F5 := fun_mk (st := s_is_word) l5 c5 k5
  have b5 := F5.binds (ps := ["word"]) fun _ _ _ _ _ _ us hl => match us, hl with | [_], _ => rfl
  have F6 := fun_mk (st := s_is_triple) l6 c6 k6
  have b6 := F6.binds (ps := ["triple"]) fun _ _ _ _ _ _ us hl => match us, hl with | [_], _ => rfl
  have F7 := fun_mk (st := s_law_mixed) l7 c7 k7
  have b7 := F7.binds (ps := ["number", "k"]) fun _ _ _ _ _ _ us hl => match us, hl with | [_, _], _ => rfl
  have F8 := fun_mk (st := s_law_numbers) l8 c8 k8
  have b8 := F8.binds (ps := ["script"]) fun _ _ _ _ _ _ us hl => match us, hl with | [_], _ => rfl
  have F9 := fun_mk (st := s_law_draw) l9 c9 k9
  have b9 := F9.binds (ps := ["draws"]) fun _ _ _ _ _ _ us hl => match us, hl with | [_], _ => rfl
  have F10 := fun_mk (st := s_law_equal) l10 c10 k10
  have b10 := F10.binds (ps := ["actual", "due"]) fun _ _ _ _ _ _ us hl => match us, hl with | [_, _], _ => rfl
  have F11 := fun_mk (st := s_law_all_equal) l11 c11 k11
  have b11 := F11.binds (ps := ["actual", "due"]) fun _ _ _ _ _ _ us hl => match us, hl with | [_, _], _ => rfl
  have F12 := fun_mk (st := s_law_bits) l12 c12 k12
  have b12 := F12.binds (ps := ["draws"]) fun _ _ _ _ _ _ us hl => match us, hl with | [_], _ => rfl
  have F13 := fun_mk (st := s_law_permutation) l13 c13 k13
  have b13 := F13.binds (ps := ["draws"]) fun _ _ _ _ _ _ us hl => match us, hl with | [_], _ => rfl
  have F14 := fun_mk (st := s_law_sent) l14 c14 k14
  have b14 := F14.binds (ps := ["word", "bits", "point"]) fun _ _ _ _ _ _ us hl => match us, hl with | [_, _, _], _ => rfl
  have F15 := fun_mk (st := s_law_lacks) l15 c15 k15
  have b15 := F15.binds (ps := ["word", "bits"]) fun _ _ _ _ _ _ us hl => match us, hl with | [_, _], _ => rfl
  have F16 := fun_mk (st := s_law) l16 c16 k16
  have b16 := F16.binds (ps := ["script"]) fun _ _ _ _ _ _ us hl => match us, hl with | [_], _ => rfl
  exact ⟨PySem.W.fnOf "law" "law" (defArgs s_law) (defBody s_law) (defScope s_law) .none kV16 dc16 pm16 an16 cd16 ct16, fun s v => .of_eq rfl, fun base _ _ => ok_law (⟨_, _, F0, b0, PySem.W.mg_of X G a0, _, _, F1, b1, PySem.W.mg_of X G a1, _, _, F2, b2, PySem.W.mg_of X G a2, _, _, F3, b3, PySem.W.mg_of X G a3, _, _, F4, b4, PySem.W.mg_of X G a4, _, _, F5, b5, PySem.W.mg_of X G a5, _, _, F6, b6, PySem.W.mg_of X G a6, _, _, F7, b7, PySem.W.mg_of X G a7, _, _, F8, b8, PySem.W.mg_of X G a8, _, _, F9, b9, PySem.W.mg_of X G a9, _, _, F10, b10, PySem.W.mg_of X G a10, _, _, F11, b11, PySem.W.mg_of X G a11, _, _, F12, b12, PySem.W.mg_of X G a12, _, _, F13, b13, PySem.W.mg_of X G a13, _, _, F14, b14, PySem.W.mg_of X G a14, _, _, F15, b15, PySem.W.mg_of X G a15, _, _, F16, b16, PySem.W.mg_of X G a16, E_BrimfulError, PySem.W.mg_of X G aE_BrimfulError, xE_BrimfulError, kE_BrimfulError, bE_BrimfulError, tE_BrimfulError, dE_BrimfulError, ⟨h1E_BrimfulError, h2E_BrimfulError, bE_BrimfulError, dE_BrimfulError, h3E_BrimfulError, hnE, htE, h4E_BrimfulError⟩, E_BadMemory, PySem.W.mg_of X G aE_BadMemory, xE_BadMemory, kE_BadMemory, bE_BadMemory, tE_BadMemory, dE_BadMemory, ⟨h1E_BadMemory, h2E_BadMemory, bE_BadMemory, dE_BadMemory, h3E_BadMemory, hnE, htE, h4E_BadMemory⟩, E_BadWord, PySem.W.mg_of X G aE_BadWord, xE_BadWord, kE_BadWord, bE_BadWord, tE_BadWord, dE_BadWord, ⟨h1E_BadWord, h2E_BadWord, bE_BadWord, dE_BadWord, h3E_BadWord, hnE, htE, h4E_BadWord⟩, sE_BrimfulError_BrimfulError, sE_BrimfulError_BadMemory, sE_BrimfulError_BadWord, sE_BadMemory_BrimfulError, sE_BadMemory_BadMemory, sE_BadMemory_BadWord, sE_BadWord_BrimfulError, sE_BadWord_BadMemory, sE_BadWord_BadWord, PySem.W.mg_none_of X G z_all, PySem.W.mg_none_of X G z_bool, PySem.W.mg_none_of X G z_int, PySem.W.mg_none_of X G z_isinstance, PySem.W.mg_none_of X G z_len, PySem.W.mg_none_of X G z_list, PySem.W.mg_none_of X G z_max, PySem.W.mg_none_of X G z_range, PySem.W.mg_none_of X G z_set, PySem.W.mg_none_of X G z_str, PySem.W.mg_none_of X G z_tuple, _, PySem.W.mg_of X G z_MOST_INPUTS, _, PySem.W.mg_of X G z_MOST_TRIPLES, _, PySem.W.mg_of X G z_POINTS⟩ : Txt K mg)⟩
end
end Br
open PySem PySem.W PyProof.Rows
set_option maxRecDepth 100000 in
set_option maxHeartbeats 0 in
theorem PySem.Challenge.cw_brimful_k22_effects_of_words_holds : PySem.Challenge.rw_brimful_k22_effects_of_words.Holds := by
  w_on; o_law; k_head; (case hw => w_witness2)
  k_fill
  refine L2.walk_of (l := PySem.Challenge.rw_brimful_k22_effects_of_words) (n := 63) (k := 10) (x := "script") (CX := fun _ => L2.CX0) (sp := fun w => Br.sp_law _) rfl (by decide) rfl ⟨rfl, by decide, by decide⟩ (fun w h Y => PySem.W.kIn_of Y) ?F (fun _ _ a ns hl _ hS => ⟨a, ns, rfl, hS, hl, fun _ => rfl⟩) (fun _ _ _ _ _ h => h)
  case F =>
    intro w mg fa h KX G hmg
    refine' Br.all_mk KX G hmg ?hnE ?htE ?aE_BrimfulError ?xE_BrimfulError ?kE_BrimfulError ?bE_BrimfulError ?tE_BrimfulError ?dE_BrimfulError ?h1E_BrimfulError ?h2E_BrimfulError ?h3E_BrimfulError ?h4E_BrimfulError ?aE_BadMemory ?xE_BadMemory ?kE_BadMemory ?bE_BadMemory ?tE_BadMemory ?dE_BadMemory ?h1E_BadMemory ?h2E_BadMemory ?h3E_BadMemory ?h4E_BadMemory ?aE_BadWord ?xE_BadWord ?kE_BadWord ?bE_BadWord ?tE_BadWord ?dE_BadWord ?h1E_BadWord ?h2E_BadWord ?h3E_BadWord ?h4E_BadWord ?sE_BrimfulError_BrimfulError ?sE_BrimfulError_BadMemory ?sE_BrimfulError_BadWord ?sE_BadMemory_BrimfulError ?sE_BadMemory_BadMemory ?sE_BadMemory_BadWord ?sE_BadWord_BrimfulError ?sE_BadWord_BadMemory ?sE_BadWord_BadWord ?a0 ?l0 ?c0 ?k0 ?a1 ?l1 ?c1 ?k1 ?a2 ?l2 ?c2 ?k2 ?a3 ?l3 ?c3 ?k3 ?a4 ?l4 ?c4 ?k4 ?a5 ?l5 ?c5 ?k5 ?a6 ?l6 ?c6 ?k6 ?a7 ?l7 ?c7 ?k7 ?a8 ?l8 ?c8 ?k8 ?a9 ?l9 ?c9 ?k9 ?a10 ?l10 ?c10 ?k10 ?a11 ?l11 ?c11 ?k11 ?a12 ?l12 ?c12 ?k12 ?a13 ?l13 ?c13 ?k13 ?a14 ?l14 ?c14 ?k14 ?a15 ?l15 ?c15 ?k15 ?a16 ?l16 ?c16 ?k16 ?z_all ?z_bool ?z_int ?z_isinstance ?z_len ?z_list ?z_max ?z_range ?z_set ?z_str ?z_tuple ?z_MOST_INPUTS ?z_MOST_TRIPLES ?z_POINTS
    (case hnE => k_is)
    (case htE => k_is)
    (case aE_BrimfulError => k_is)
    (case xE_BrimfulError => k_exc)
    (case kE_BrimfulError => k_is)
    (case bE_BrimfulError => k_is)
    (case tE_BrimfulError => k_is)
    (case dE_BrimfulError => k_is)
    (case h1E_BrimfulError => k_is)
    (case h2E_BrimfulError => k_is)
    (case h3E_BrimfulError => k_is)
    (case h4E_BrimfulError => k_is)
    (case aE_BadMemory => k_is)
    (case xE_BadMemory => k_exc)
    (case kE_BadMemory => k_is)
    (case bE_BadMemory => k_is)
    (case tE_BadMemory => k_is)
    (case dE_BadMemory => k_is)
    (case h1E_BadMemory => k_is)
    (case h2E_BadMemory => k_is)
    (case h3E_BadMemory => k_is)
    (case h4E_BadMemory => k_is)
    (case aE_BadWord => k_is)
    (case xE_BadWord => k_exc)
    (case kE_BadWord => k_is)
    (case bE_BadWord => k_is)
    (case tE_BadWord => k_is)
    (case dE_BadWord => k_is)
    (case h1E_BadWord => k_is)
    (case h2E_BadWord => k_is)
    (case h3E_BadWord => k_is)
    (case h4E_BadWord => k_is)
    (case sE_BrimfulError_BrimfulError => first | rfl | k_is)
    (case sE_BrimfulError_BadMemory => first | rfl | k_is)
    (case sE_BrimfulError_BadWord => first | rfl | k_is)
    (case sE_BadMemory_BrimfulError => first | rfl | k_is)
    (case sE_BadMemory_BadMemory => first | rfl | k_is)
    (case sE_BadMemory_BadWord => first | rfl | k_is)
    (case sE_BadWord_BrimfulError => first | rfl | k_is)
    (case sE_BadWord_BadMemory => first | rfl | k_is)
    (case sE_BadWord_BadWord => first | rfl | k_is)
    (case a0 => k_is)
    (case l0 => k_is)
    (case c0 => k_is)
    (case k0 => k_is)
    (case a1 => k_is)
    (case l1 => k_is)
    (case c1 => k_is)
    (case k1 => k_is)
    (case a2 => k_is)
    (case l2 => k_is)
    (case c2 => k_is)
    (case k2 => k_is)
    (case a3 => k_is)
    (case l3 => k_is)
    (case c3 => k_is)
    (case k3 => k_is)
    (case a4 => k_is)
    (case l4 => k_is)
    (case c4 => k_is)
    (case k4 => k_is)
    (case a5 => k_is)
    (case l5 => k_is)
    (case c5 => k_is)
    (case k5 => k_is)
    (case a6 => k_is)
    (case l6 => k_is)
    (case c6 => k_is)
    (case k6 => k_is)
    (case a7 => k_is)
    (case l7 => k_is)
    (case c7 => k_is)
    (case k7 => k_is)
    (case a8 => k_is)
    (case l8 => k_is)
    (case c8 => k_is)
    (case k8 => k_is)
    (case a9 => k_is)
    (case l9 => k_is)
    (case c9 => k_is)
    (case k9 => k_is)
    (case a10 => k_is)
    (case l10 => k_is)
    (case c10 => k_is)
    (case k10 => k_is)
    (case a11 => k_is)
    (case l11 => k_is)
    (case c11 => k_is)
    (case k11 => k_is)
    (case a12 => k_is)
    (case l12 => k_is)
    (case c12 => k_is)
    (case k12 => k_is)
    (case a13 => k_is)
    (case l13 => k_is)
    (case c13 => k_is)
    (case k13 => k_is)
    (case a14 => k_is)
    (case l14 => k_is)
    (case c14 => k_is)
    (case k14 => k_is)
    (case a15 => k_is)
    (case l15 => k_is)
    (case c15 => k_is)
    (case k15 => k_is)
    (case a16 => k_is)
    (case l16 => k_is)
    (case c16 => k_is)
    (case k16 => k_is)
    (case z_all => k_is)
    (case z_bool => k_is)
    (case z_int => k_is)
    (case z_isinstance => k_is)
    (case z_len => k_is)
    (case z_list => k_is)
    (case z_max => k_is)
    (case z_range => k_is)
    (case z_set => k_is)
    (case z_str => k_is)
    (case z_tuple => k_is)
    (case z_MOST_INPUTS => k_is)
    (case z_MOST_TRIPLES => k_is)
    (case z_POINTS => k_is)

